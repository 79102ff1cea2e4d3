
import PyProof.Rows.All
import Wide.All
import OpenK.AllK
import Wide.FinOn
import PyProof.EqAt
import PyProof.EqKinds
import PyProof.TupleCall
import KE.BitLaws
import KE.OsGo
import Open.SpecLaws
import PySem.Challenge.RW_letterfall_s05_order
set_option Elab.async false
set_option linter.all false
set_option maxRecDepth 100000
set_option maxHeartbeats 4000000
namespace L2
open PySem PySem.Spec PyProof.Rows
noncomputable abbrev Key := Sum Int Str
noncomputable def keyIs : Key → Value → Bool
  | .inl k, v => Value.isInt k v
  | .inr x, v => Value.isStrOf x v
noncomputable def keyH (w : World) : Key → Int
  | .inl k => hashInt k
  | .inr x => hashStr w x
theorem keyIs_shape : ∀ {k : Key} {v : Value}, keyIs k v = true → (∃ i t, k = Sum.inl i ∧ v = Value.int i t) ∨ (∃ x t, k = Sum.inr x ∧ v = Value.str x t)
  | .inl i, v, h => by
    obtain ⟨t, e⟩ := Value.isInt_shape (k := i) (v := v) h
    exact .inl ⟨i, t, rfl, e⟩
  | .inr x, v, h => by
    obtain ⟨t, e⟩ := Value.isStrOf_shape (x := x) (v := v) h
    exact .inr ⟨x, t, rfl, e⟩
theorem keyIs_int (i : Int) (t : Tok) : keyIs (.inl i) (.int i t) = true := by simp [keyIs, Value.isInt]
theorem keyIs_str (x : Str) (t : Tok) : keyIs (.inr x) (.str x t) = true := by simp [keyIs, Value.isStrOf]
theorem key_ll (a b : Int) : decide ((Sum.inl a : Key) = Sum.inl b) = (a == b) := by
  by_cases e : a = b
  · subst e; simp
  · have h : ¬ (Sum.inl a : Key) = Sum.inl b := fun q => e (Sum.inl.inj q)
    rw [decide_eq_false h]
    exact (beq_eq_false_iff_ne.mpr e).symm
theorem key_rr (a b : Str) : decide ((Sum.inr a : Key) = Sum.inr b) = decide (a = b) := by
  by_cases e : a = b
  · subst e; simp
  · have h : ¬ (Sum.inr a : Key) = Sum.inr b := fun q => e (Sum.inr.inj q)
    rw [decide_eq_false h, decide_eq_false e]
theorem key_lr (a : Int) (b : Str) : decide ((Sum.inl a : Key) = Sum.inr b) = false := decide_eq_false (fun q => nomatch q)
theorem key_rl (a : Str) (b : Int) : decide ((Sum.inr a : Key) = Sum.inl b) = false := decide_eq_false (fun q => nomatch q)
noncomputable def mixKind (prog : Program) (w : World) : PySem.KeyKind prog w Key where
  is := keyIs
  hash := keyH w
  inj := fun v a b ha hb => by
    rcases keyIs_shape ha with ⟨i, t, rfl, rfl⟩ | ⟨x, t, rfl, rfl⟩
    · rcases keyIs_shape hb with ⟨j, u, rfl, e⟩ | ⟨y, u, rfl, e⟩
      · injection e with e1 _; rw [e1]
      · exact nomatch e
    · rcases keyIs_shape hb with ⟨j, u, rfl, e⟩ | ⟨y, u, rfl, e⟩
      · exact nomatch e
      · injection e with e1 _; rw [e1]
  byValue := fun k v h => by
    rcases keyIs_shape h with ⟨i, t, rfl, rfl⟩ | ⟨x, t, rfl, rfl⟩ <;> rfl
  pyHash := fun hv h => by
    rcases keyIs_shape hv with ⟨i, t, rfl, rfl⟩ | ⟨x, t, rfl, rfl⟩
    · exact wpAny_pyHash_int h
    · exact wpAny_pyHash_str h
  eqBool := fun hu hv h => by
    rcases keyIs_shape hu with ⟨i, t, rfl, rfl⟩ | ⟨x, t, rfl, rfl⟩
    · rcases keyIs_shape hv with ⟨j, u, rfl, rfl⟩ | ⟨y, u, rfl, rfl⟩
      · rw [key_ll] at h; exact wpAny_eqBool_int h
      · rw [key_lr] at h; exact SeqAt.EqAt.int_str i t y u _ _ _ _ h
    · rcases keyIs_shape hv with ⟨j, u, rfl, rfl⟩ | ⟨y, u, rfl, rfl⟩
      · rw [key_rl] at h; exact SeqAt.EqAt.str_int x t j u _ _ _ _ h
      · rw [key_rr] at h; exact wpAny_eqBool_str h
  «strs» := fun k x t v h => by
    rcases keyIs_shape h with ⟨i, u, rfl, e⟩ | ⟨y, u, rfl, e⟩
    · exact nomatch e
    · injection e with e1 _
      subst e1
      cases v <;> rfl
theorem mixKind_int (prog : Program) (w : World) (i : Int) (t : Tok) : (mixKind prog w).is (.inl i) (.int i t) = true := keyIs_int i t
theorem mixKind_str (prog : Program) (w : World) (x : Str) (t : Tok) : (mixKind prog w).is (.inr x) (.str x t) = true := keyIs_str x t
end L2
namespace L2
open PySem PySem.Spec PyProof.Rows
inductive V where
  | non | bl (b : Bool) | int (i : Int) | str (x : Str) | byt (b : Array UInt8) | flt (b : UInt64) | ref (a : Addr) | ty (n : String)
  deriving DecidableEq
noncomputable def RelV : V → Value → Prop
  | .non, u => u = Value.none
  | .bl b, u => u = Value.bool b
  | .int i, u => ∃ t, u = Value.int i t
  | .str x, u => ∃ t, u = Value.str x t
  | .byt b, u => ∃ t, u = Value.bytes b t
  | .flt b, u => ∃ t, u = Value.float b t
  | .ref a, u => u = Value.ref a
  | .ty n, u => u = Value.type n
noncomputable abbrev Vals : List V → List Value → Prop := Paired RelV
theorem Vals.length {xs : List V} {us : List Value} (r : Vals xs us) : xs.length = us.length := Paired.length r
theorem Vals.get : ∀ {xs : List V} {us : List Value} {i : Nat} {x : V}, Vals xs us → xs[i]? = some x → ∃ u, us[i]? = some u ∧ RelV x u
  | _, _, _, _, .nil, e => by simp at e
  | _, _, 0, _, .cons r _, e => by simp at e; subst e; exact ⟨_, rfl, r⟩
  | _, _, i + 1, x, .cons _ t, e => by
    obtain ⟨u, h1, h2⟩ := Vals.get (i := i) (x := x) t (by simpa using e)
    exact ⟨u, by simpa using h1, h2⟩
theorem Vals.set {x : V} {u : Value} (r : RelV x u) : ∀ {xs : List V} {us : List Value} (i : Nat), Vals xs us → Vals (xs.set i x) (us.set i u)
  | _, _, _, .nil => .nil
  | _, _, 0, .cons _ t => .cons r t
  | _, _, i + 1, .cons q t => .cons q (Vals.set r i t)
theorem Vals.append : ∀ {xs ys : List V} {us ws : List Value}, Vals xs us → Vals ys ws → Vals (xs ++ ys) (us ++ ws)
  | _, _, _, _, .nil, s => s
  | _, _, _, _, .cons r t, s => .cons r (Vals.append t s)
theorem Vals.take : ∀ {xs : List V} {us : List Value} (n : Nat), Vals xs us → Vals (xs.take n) (us.take n)
  | _, _, 0, _ => .nil
  | _, _, _ + 1, .nil => .nil
  | _, _, n + 1, .cons r t => .cons r (Vals.take n t)
theorem Vals.drop : ∀ {xs : List V} {us : List Value} (n : Nat), Vals xs us → Vals (xs.drop n) (us.drop n)
  | _, _, 0, r => r
  | _, _, _ + 1, .nil => .nil
  | _, _, n + 1, .cons _ t => Vals.drop n t
noncomputable def RelO : Option V → Option Value → Prop
  | some v, some u => RelV v u
  | none, none => True
  | _, _ => False
noncomputable def KV {κ : Type} : List (κ × V) → List (κ × Value) → Prop := Paired fun (p : κ × V) (q : κ × Value) => p.1 = q.1 ∧ RelV p.2 q.2
noncomputable def kV : Key → V
  | .inl i => .int i
  | .inr x => .str x
inductive HO where
  /-- a list -/
  | lst (xs : List V)
  /-- a tuple (never changes) -/
  | tup (xs : List V)
  /-- a dict whose keys are ints and texts; one whose keys are tuples of ints and texts (the empty one is both) -/
  | dK (kvs : List (Key × V)) | dT (kvs : List (List Key × V))
  /-- a set of ints: its members, its size -/
  | set (S : Int → Bool) (n : Nat)
  /-- an instance of the class at C, its dict at dx, its attributes -/
  | ins (C dx : Addr) (fs : List (Str × V))
  /-- the dict of the instance at x -/
  | own (x : Addr)
  /-- the dict of an exception -/
  | xd (fs : List (Str × V))
  /-- a bound method, f of x -/
  | met (f x : Addr)
  /-- a range object lo, lo + 1, .. below hi -/
  | rng (lo hi : Int)
  /-- a thing that is known to the object (the script; a dict while a loop walks it): read, never written while it is so -/
  | frz (o : Obj) (u : HO)
  /-- a code object's table -/
  | tbl (ps : Array Value)
  /-- any other thing, by what is true of its one object (a def of one's own: SetO a S n := HO.ext fun h => ..) -/
  | ext (φ : Heap → Prop)
noncomputable abbrev Hp := Addr → Option HO
noncomputable def upd (H : Hp) (a : Addr) (o : HO) : Hp := fun b => if b = a then some o else H b
theorem upd_same {H : Hp} {a : Addr} {o : HO} : upd H a o a = some o := by unfold upd; rw [if_pos rfl]
theorem upd_ne {H : Hp} {a b : Addr} {o : HO} (h : b ≠ a) : upd H a o b = H b := by unfold upd; rw [if_neg h]
theorem ne_of {H : Hp} {a b : Addr} {o u : HO} (h : H a = some o) (h' : H b = some u) (d : o ≠ u) : a ≠ b := by
  intro e; subst e; rw [h] at h'; exact d (Option.some.inj h')
theorem ne_of_none {H : Hp} {a b : Addr} {o : HO} (h : H a = some o) (h' : H b = none) : a ≠ b := by
  intro e; subst e; rw [h] at h'; cases h'
section
variable (P : Program) (w : World)
noncomputable def ObjOk (H : Hp) (h : Heap) (a : Addr) : HO → Prop
  | .lst xs => xs.length ≤ sizeLine ∧ ∃ (its : List Value) (n : Nat), Vals xs its ∧ h.get? a = some { cls := .type "list", data := .seq its.toArray n }
  | .tup xs => xs.length ≤ sizeLine ∧ ∃ its : List Value, Vals xs its ∧ IsTup h a its.toArray
  | .dK kvs => kvs.length ≤ sizeLine ∧ (a == sysModules) = false ∧ ∃ vs, KV kvs vs ∧ h.DictOf (mixKind P w) a vs
  | .dT kvs => kvs.length ≤ sizeLine ∧ (a == sysModules) = false ∧ ∃ xs : List (List Key × Addr × Value),
      Paired (fun (p : List Key × V) (q : List Key × Addr × Value) => p.1 = q.1 ∧ H q.2.1 = some (.tup (p.1.map kV)) ∧ RelV p.2 q.2.2) kvs xs ∧
      ∃ o es ep, h.get? a = some o ∧ o.ExactDict ∧ o.data = .dict es ep ∧ es.toList = xs.map (entryOfKey (tupleKind (mixKind P w))) ∧ (xs.map (·.1)).Nodup
  | .set S n => h.SetOf (intKind P w) a S n
  | .ins C dx fs => H dx = some (.own a) ∧ fs.length ≤ 1000 ∧ dx ≠ a ∧ h.get? a = some (PySem.W.instObj C dx) ∧
      ∃ mA, h.Ns1 dx mA ∧ (∀ f, RelO (fs.lookup f) (mA f)) ∧ PySem.Within mA (fs.map (·.1))
  | .own _ => ∃ o, h.get? a = some o
  | .xd fs => ∃ mA, h.Ns1 a mA ∧ ∀ f, RelO (fs.lookup f) (mA f)
  | .rng lo hi => ∃ t u v, h.get? a = some { cls := .type "range", data := .fields #[.int lo t, .int hi u, .int 1 v] }
  | .frz o u => h.get? a = some o ∧ ObjOk H h a u
  | .tbl ps => h.get? a = some { cls := .none, data := .fields ps }
  | .met f x => h.get? a = some (PySem.W.methodObj (.ref f) (.ref x))
  | .ext φ => φ h ∧ (∃ o, h.get? a = some o) ∧ ∀ h1 h2 : Heap, φ h1 → (∀ o, h1.get? a = some o → h2.get? a = some o) → φ h2
noncomputable def HOk (H : Hp) (h : Heap) : Prop := ∀ a o, H a = some o → ObjOk P w H h a o
end
section
variable {P : Program} {w : World} {H H' : Hp} {h h' : Heap} {a : Addr} {o : HO}
theorem ObjOk.lt (x : ObjOk P w H h a o) : a < h.objs.size := by
  cases o with
  | lst xs => obtain ⟨_, _, _, _, e⟩ := x; exact Heap.lt_size e
  | tup xs => obtain ⟨_, _, _, p⟩ := x; exact p.lt
  | dK kvs => obtain ⟨_, _, _, _, o, _, _, e, _⟩ := x; exact Heap.lt_size e
  | dT kvs => obtain ⟨_, _, _, _, o, _, _, e, _⟩ := x; exact Heap.lt_size e
  | set S n => obtain ⟨o, _, _, _, e, _⟩ := x; exact Heap.lt_size e
  | ins C dx fs => obtain ⟨_, _, _, e, _⟩ := x; exact Heap.lt_size e
  | own y => obtain ⟨_, e⟩ := x; exact Heap.lt_size e
  | xd fs => obtain ⟨_, ⟨_, _, _, e, _⟩, _⟩ := x; exact Heap.lt_size e
  | rng lo hi => obtain ⟨_, _, _, e⟩ := x; exact Heap.lt_size e
  | frz ob u => obtain ⟨e, _⟩ := x; exact Heap.lt_size e
  | tbl ps => exact Heap.lt_size (show h.get? a = some _ from x)
  | met f y => exact Heap.lt_size (show h.get? a = some _ from x)
  | ext φ => obtain ⟨_, ⟨_, e⟩, _⟩ := x; exact Heap.lt_size e
theorem Paired.mapP {α β : Type} {F G : α → β → Prop} : ∀ {l₁ : List α} {l₂ : List β}, Paired F l₁ l₂ → (∀ a b, F a b → G a b) → Paired G l₁ l₂
  | _, _, .nil, _ => .nil
  | _, _, .cons r t, f => .cons (f _ _ r) (Paired.mapP t f)
theorem ObjOk.stay (x : ObjOk P w H h a o) (k : ∀ b u, (b = a ∨ H b = some (.own a)) → h.get? b = some u → h'.get? b = some u)
    (ho : ∀ b, H b = some (.own a) → H' b = some (.own a)) (ht : ∀ b xs, H b = some (.tup xs) → H' b = some (.tup xs)) : ObjOk P w H' h' a o := by
  induction o with
  | lst xs => obtain ⟨z, its, n, r, e⟩ := x; exact ⟨z, its, n, r, k _ _ (.inl rfl) e⟩
  | tup xs => obtain ⟨z, its, r, ob, e, c⟩ := x; exact ⟨z, its, r, ob, k _ _ (.inl rfl) e, c⟩
  | dK kvs => obtain ⟨z, y, vs, r, ob, es, ep, e, c⟩ := x; exact ⟨z, y, vs, r, ob, es, ep, k _ _ (.inl rfl) e, c⟩
  | dT kvs =>
    obtain ⟨z, y, xs, r, ob, es, ep, e, c⟩ := x
    exact ⟨z, y, xs, Paired.mapP r fun p q z => ⟨z.1, ht _ _ z.2.1, z.2.2⟩, ob, es, ep, k _ _ (.inl rfl) e, c⟩
  | set S n => obtain ⟨ob, es, ep, t, e, c⟩ := x; exact ⟨ob, es, ep, t, k _ _ (.inl rfl) e, c⟩
  | ins C dx fs =>
    obtain ⟨d, z, ne, e, mA, ⟨od, es, ep, e2, c⟩, r⟩ := x
    exact ⟨ho _ d, z, ne, k _ _ (.inl rfl) e, mA, ⟨od, es, ep, k _ _ (.inr d) e2, c⟩, r⟩
  | own y => obtain ⟨ob, e⟩ := x; exact ⟨ob, k _ _ (.inl rfl) e⟩
  | xd fs => obtain ⟨mA, ⟨od, es, ep, e, c⟩, r⟩ := x; exact ⟨mA, ⟨od, es, ep, k _ _ (.inl rfl) e, c⟩, r⟩
  | rng lo hi => obtain ⟨t, u, v, e⟩ := x; exact ⟨t, u, v, k _ _ (.inl rfl) e⟩
  | frz ob u ih => obtain ⟨e, q⟩ := x; exact ⟨k _ _ (.inl rfl) e, ih q⟩
  | tbl ps =>
    have e : h.get? a = some { cls := .none, data := .fields ps } := x
    show h'.get? a = some { cls := .none, data := .fields ps }
    exact k a _ (.inl rfl) e
  | met f y =>
    have e : h.get? a = some (PySem.W.methodObj (.ref f) (.ref y)) := x
    show h'.get? a = some (PySem.W.methodObj (.ref f) (.ref y))
    exact k a _ (.inl rfl) e
  | ext φ => obtain ⟨p, ⟨o, e⟩, st⟩ := x; exact ⟨st _ _ p fun o q => k _ _ (.inl rfl) q, ⟨o, k _ _ (.inl rfl) e⟩, st⟩
theorem HOk.lt (x : HOk P w H h) (e : H a = some o) : a < h.objs.size := (x a o e).lt
theorem HOk.fresh (x : HOk P w H h) (e : h.objs.size ≤ a) : H a = none := by
  cases q : H a with
  | none => rfl
  | some u => exact absurd (Nat.lt_of_lt_of_le (x.lt q) e) (Nat.lt_irrefl _)
theorem HOk.kept (x : HOk P w H h) (k : ∀ b u, h.get? b = some u → h'.get? b = some u) : HOk P w H h' := fun a o e =>
  (x a o e).stay (fun b u _ q => k b u q) (fun _ q => q) fun _ _ q => q
theorem HOk.laid (x : HOk P w H h) (k : ∀ b u, h.get? b = some u → h'.get? b = some u) (hp : h.objs.size ≤ a) (new : ObjOk P w (upd H a o) h' a o) : HOk P w (upd H a o) h' := fun b u e => by
  have hn := x.fresh hp
  by_cases hb : b = a
  · subst hb; rw [upd_same] at e; cases e; exact new
  · rw [upd_ne hb] at e
    exact (x b u e).stay (fun c v _ q => k c v q) (fun c q => by rw [upd_ne (ne_of_none q hn)]; exact q) fun c xs q => by rw [upd_ne (ne_of_none q hn)]; exact q
end
noncomputable def Rd (H : Hp) (a : Addr) (u : HO) : Prop := H a = some u ∨ ∃ o, H a = some (.frz o u)
theorem Rd.of {H : Hp} {a : Addr} {u : HO} (h : H a = some u) : Rd H a u := .inl h
theorem Rd.ok {P : Program} {w : World} {H : Hp} {h : Heap} {a : Addr} {u : HO} (r : Rd H a u) (x : HOk P w H h) : ObjOk P w H h a u := by
  rcases r with r | ⟨o, r⟩
  · exact x a u r
  · obtain ⟨_, q⟩ := x a _ r
    exact q
noncomputable def Mut : Option HO → Prop
  | some (.lst _) => True
  | some (.dK _) => True
  | some (.dT _) => True
  | some (.set _ _) => True
  | some (.ins _ _ _) => True
  | some (.ext _) => True
  | _ => False
section
variable {P : Program} {w : World} {H : Hp} {h h' : Heap} {x e : Addr} {o' : HO}
theorem HOk.write (ok : HOk P w H h) (mu : Mut (H x)) (he : e = x ∨ H e = some (.own x)) (k : ∀ b u, b ≠ e → h.get? b = some u → h'.get? b = some u) (heo : ∃ u, h'.get? e = some u)
    (new : ObjOk P w (upd H x o') h' x o') : HOk P w (upd H x o') h' := fun b u q => by
  have nown : ∀ c y, H c = some (.own y) → c ≠ x := fun c y r z => by subst z; rw [r] at mu; exact mu
  have ntup : ∀ c xs, H c = some (.tup xs) → c ≠ x := fun c xs r z => by subst z; rw [r] at mu; exact mu
  by_cases hb : b = x
  · subst hb; rw [upd_same] at q; cases q; exact new
  · rw [upd_ne hb] at q
    by_cases hbe : b = e
    · have q' : H b = some (.own x) := by
        rcases he with z | z
        · exact absurd (hbe.trans z) hb
        · rw [hbe]; exact z
      rw [q] at q'; cases q'
      obtain ⟨v, hv⟩ := heo
      exact ⟨v, by rw [hbe]; exact hv⟩
    · refine (ok b u q).stay (fun c v hc r => k c v ?_ r) (fun c r => by rw [upd_ne (nown c b r)]; exact r) fun c xs r => by rw [upd_ne (ntup c xs r)]; exact r
      rcases hc with rfl | hc
      · exact hbe
      · rintro rfl
        rcases he with z | z
        · exact nown c b hc z
        · rw [hc] at z; cases z; exact hb rfl
end
structure Un (fs ex : List Addr) (H H' : Hp) (h h' : Heap) : Prop where
  keep : ∀ b o, h.get? b = some o → H b = none → b ∉ fs → b ∉ ex → h'.get? b = some o
  slot : ∀ b o, h.get? b = some o → H b = none → b ∈ fs → b ∉ ex → ∃ sl, h'.get? b = some { o with slots := sl }
  free : ∀ b o, h.get? b = some o → H b = none → b ∉ ex → H' b = none
  there : ∀ b o, h.get? b = some o → b ∉ ex → ∃ o', h'.get? b = some o'
  tups : ∀ b xs, H b = some (.tup xs) → H' b = some (.tup xs)
  frzs : ∀ b o u, H b = some (.frz o u) → H' b = some (.frz o u)
  tbls : ∀ b ps, H b = some (.tbl ps) → ∃ more, H' b = some (.tbl (ps ++ more))
section
variable {fs fs' ex ex' : List Addr} {H H1 H2 : Hp} {h h1 h2 h' : Heap} {a x e : Addr} {o : HO}
theorem Un.any (u : Un fs ex H H1 h h1) {b : Addr} {ob : Obj} (q : h.get? b = some ob) (n : H b = none) (hx : b ∉ ex) : ∃ sl, h1.get? b = some { ob with slots := sl } := by
  by_cases hb : b ∈ fs
  · exact u.slot b ob q n hb hx
  · exact ⟨ob.slots, u.keep b ob q n hb hx⟩
theorem Un.trans (a : Un fs ex H H1 h h1) (b : Un fs ex H1 H2 h1 h2) : Un fs ex H H2 h h2 where
  keep := fun c ob q n hc hx => b.keep c ob (a.keep c ob q n hc hx) (a.free c ob q n hx) hc hx
  slot := fun c ob q n hc hx => by
    obtain ⟨sl, e1⟩ := a.slot c ob q n hc hx
    obtain ⟨sl', e2⟩ := b.slot c _ e1 (a.free c ob q n hx) hc hx
    exact ⟨sl', e2⟩
  free := fun c ob q n hx => by
    obtain ⟨o', e1⟩ := a.there c ob q hx
    exact b.free c o' e1 (a.free c ob q n hx) hx
  there := fun c ob q hx => by
    obtain ⟨o', e1⟩ := a.there c ob q hx
    exact b.there c o' e1 hx
  tups := fun c xs q => b.tups c xs (a.tups c xs q)
  frzs := fun c ob xs q => b.frzs c ob xs (a.frzs c ob xs q)
  tbls := fun c ps q => by
    obtain ⟨m1, e1⟩ := a.tbls c ps q
    obtain ⟨m2, e2⟩ := b.tbls c _ e1
    exact ⟨m1 ++ m2, by rw [e2, Array.append_assoc]⟩
theorem Un.kept (k : ∀ b u, h.get? b = some u → h'.get? b = some u) : Un fs ex H H h h' :=
  ⟨fun b ob q _ _ _ => k b ob q, fun b ob q _ _ _ => ⟨ob.slots, k b ob q⟩, fun _ _ _ n _ => n, fun b ob q _ => ⟨ob, k b ob q⟩, fun _ _ q => q, fun _ _ _ q => q, fun _ ps q => ⟨#[], by rw [q]; simp⟩⟩
theorem Un.refl : Un fs ex H H h h := Un.kept fun _ _ q => q
theorem Un.laid (k : ∀ b u, h.get? b = some u → h'.get? b = some u) (hp : h.objs.size ≤ a) (hn : H a = none) : Un fs ex H (upd H a o) h h' where
  keep := fun b u q _ _ _ => k b u q
  slot := fun b u q _ _ _ => ⟨u.slots, k b u q⟩
  free := fun b u q n _ => by rw [upd_ne (Nat.ne_of_lt (Nat.lt_of_lt_of_le (Heap.lt_size q) hp))]; exact n
  there := fun b u q _ => ⟨u, k b u q⟩
  tups := fun b xs q => by rw [upd_ne (ne_of_none q hn)]; exact q
  frzs := fun b u xs q => by rw [upd_ne (ne_of_none q hn)]; exact q
  tbls := fun b ps q => ⟨#[], by rw [upd_ne (ne_of_none q hn), q]; simp⟩
theorem Un.write (mu : Mut (H x)) (he : e = x ∨ H e = some (.own x)) (k : ∀ b u, b ≠ e → h.get? b = some u → h'.get? b = some u) (heo : ∃ u, h'.get? e = some u) : Un fs ex H (upd H x o) h h' := by
  have hx : ∀ b, H b = none → b ≠ x := fun b n z => by subst z; rw [n] at mu; exact mu
  have hb : ∀ b, H b = none → b ≠ e := fun b n z => by
    subst z
    rcases he with r | r
    · exact hx b n r
    · rw [n] at r; cases r
  have hm : ∀ b u, H b = some u → ¬ Mut (some u) → b ≠ x := fun b u q nm z => by subst z; rw [q] at mu; exact nm mu
  refine ⟨fun b u q n _ _ => k b u (hb b n) q, fun b u q n _ _ => ⟨u.slots, k b u (hb b n) q⟩, fun b u q n _ => by rw [upd_ne (hx b n)]; exact n, fun b u q _ => ?_,
    fun b xs q => by rw [upd_ne (hm b _ q fun z => z)]; exact q, fun b u xs q => by rw [upd_ne (hm b _ q fun z => z)]; exact q, fun b ps q => ⟨#[], by rw [upd_ne (hm b _ q fun z => z), q]; simp⟩⟩
  by_cases hbe : b = e
  · subst hbe; exact heo
  · exact ⟨u, k b u hbe q⟩
theorem Un.mono (u : Un fs ex H H1 h h1) (hs : ∀ b ∈ fs, b ∈ fs') (hx : ∀ b ∈ ex, b ∈ ex') : Un fs' ex' H H1 h h1 :=
  ⟨fun b ob q n hb he => u.keep b ob q n (fun z => hb (hs b z)) fun z => he (hx b z), fun _ _ q n _ he => u.any q n fun z => he (hx _ z), fun b ob q n he => u.free b ob q n fun z => he (hx b z), fun b ob q he => u.there b ob q fun z => he (hx b z), u.tups, u.frzs, u.tbls⟩
end
noncomputable def trk (h : Heap) (H : Hp) : List Addr := (List.range h.objs.size).filter fun a => (H a).isSome
noncomputable def hidT (h : Heap) (H : Hp) : Heap := PySem.W.hideAll h (trk h H)
theorem hidT_size (h : Heap) (H : Hp) : (hidT h H).objs.size = h.objs.size := PySem.W.hideAll_size _ _
theorem hidT_get {h : Heap} {H : Hp} {b : Addr} {o : Obj} (e : h.get? b = some o) (n : H b = none) : (hidT h H).get? b = some o :=
  PySem.W.hideAll_get _ e fun hm => by
    have q : (H b).isSome = true := (List.mem_filter.mp hm).2
    rw [n] at q; simp at q
theorem of_hidT {h : Heap} {H : Hp} {b : Addr} {o : Obj} (e : (hidT h H).get? b = some o) : h.get? b = some o ∧ H b = none := by
  have e' : h.get? b = some o := PySem.W.of_hideAll (trk h H) e
  refine ⟨e', ?_⟩
  cases q : H b with
  | none => rfl
  | some x =>
    have hm : b ∈ trk h H := List.mem_filter.mpr ⟨List.mem_range.mpr (Heap.lt_size e'), by simp [q]⟩
    have z : (hidT h H).get? b = none := PySem.W.hideAll_none (trk h H) hm
    rw [z] at e; cases e
noncomputable def allNews (g h : Heap) (L : Addr) : List (Addr × Obj) := (List.range h.objs.size).filterMap fun a => if a = L ∨ (g.get? a).isSome = true then none else (h.get? a).map fun o => (a, o)
noncomputable def rest (g h : Heap) (L d : Addr) : List (Addr × Obj) := (allNews g h L).filter fun p => decide (p.1 ≠ d)
end L2
namespace L2
open PySem PySem.Spec PyProof.Rows
structure Mod (K : PySem.W.Frag) (mg : Str → Option Value) (base : Heap) : Prop where
  kin : K.In base
  glob : base.Ns mainGlobals mg
  blt : ∃ mb, base.Ns builtinsNs mb ∧ ∀ x : Str, x ≠ "__name__" → mb x = bootBuiltins x
  nolimit : base.NoLimit
structure Cx where
  prog : Program
  w : World
  K : PySem.W.Frag
  mg : Str → Option Value
  base : Heap
  A : Around
  N : List Str
  s_0 : Shared
  H_0 : Hp
  env : Env
  outer : List Env
  stack : List Env
  ex : List Addr
  fn : Str → Bool
  calm : Bool
  pn : List (Addr × Obj)
  xe : Value → Shared → Prop
noncomputable def frs (l : List Env) : List Addr := l.filterMap (·.frame)
noncomputable abbrev Cx.fs (X : Cx) : List Addr := frs X.outer
noncomputable def Vis (sc : Scope) (x : Str) : Prop := sc.names.lookup x = some .local ∨ sc.names.lookup x = some .cell ∨ sc.names.lookup x = some .free
noncomputable def Loc (sc : Scope) (x : Str) : Prop := sc.names.lookup x = some .local ∨ sc.names.lookup x = some .cell
noncomputable def Look (env : Env) (h : Heap) (m : Str → Option Value) (x : Str) (u : Value) : Prop :=
  (env.kindOf x = some .local ∧ m x = some u) ∨ ((env.kindOf x = some .cell ∨ env.kindOf x = some .free) ∧ ∃ c, env.cells.lookup x = some c ∧ h.IsCell c (some u))
structure Cx.Ok (X : Cx) : Prop where
  mod : Mod X.K X.mg X.base
  kind : X.env.scope.kind = .function
  glob : X.env.globals = mainGlobals
  blt : X.env.builtins = builtinsNs
  above : X.s_0.heap.objs.size ≤ X.env.locals
  inj : ∀ x y c, X.env.cells.lookup x = some c → X.env.cells.lookup y = some c → x = y
  has : ∀ x, (X.env.kindOf x = some .cell ∨ X.env.kindOf x = some .free) → ∃ c, X.env.cells.lookup x = some c
  cab : ∀ x c, X.fn x = true → X.env.cells.lookup x = some c → X.s_0.heap.objs.size ≤ c
  hd : X.calm = true → X.A.handled = none
  frames : X.A.frames = some X.stack
  stk : X.stack = X.outer ∨ (X.stack = X.env :: X.outer ∧ X.env.frame = some X.env.locals)
  exf : ∀ b ∈ X.ex, b ≠ X.env.locals ∧ ∀ x c, X.env.cells.lookup x = some c → c ≠ b
  bs : ∀ b o, X.base.get? b = some o → X.s_0.heap.get? b = some o ∧ X.H_0 b = none
  bsz : X.base.objs.size ≤ X.s_0.heap.objs.size
  noex : ∀ b o, X.base.get? b = some o → b ∉ X.ex
  exfs : ∀ b ∈ X.ex, b ∉ X.fs
  funs : X.s_0.heap.FunFrames X.base X.outer
  frf : ∀ b ∈ X.fs, X.H_0 b = none
structure Inv (X : Cx) (pins : List (Addr × Obj)) (σ : List (Option V)) (H : Hp) (s : Shared) : Prop where
  ok : X.Ok
  os : s.os = X.s_0.os
  bare : AllBare s.gens
  base : Un X.fs X.ex X.H_0 H X.s_0.heap s.heap
  loc : ∃ m, s.heap.Ns X.env.locals m ∧ ∀ (i : Nat) (x : Str) (v : V), X.N[i]? = some x → σ[i]? = some (some v) → Vis X.env.scope x → ∃ u, RelV v u ∧ Look X.env s.heap m x u
  cell : ∀ x c, X.env.cells.lookup x = some c → ∃ v, s.heap.IsCell c v
  free : H X.env.locals = none
  freeC : ∀ x c, X.env.cells.lookup x = some c → H c = none
  pin : ∀ p ∈ X.pn ++ pins, s.heap.get? p.1 = some p.2 ∧ H p.1 = none ∧ p.1 ≠ X.env.locals ∧ p.1 ∉ X.fs ∧ ∀ v, p.2.data ≠ .cell v
  hok : HOk X.prog X.w H s.heap
  len : σ.length = X.N.length
section
variable {X : Cx} {pins : List (Addr × Obj)} {σ : List (Option V)} {H H' : Hp} {s : Shared} {h' : Heap}
theorem Cx.Ok.nofr (ok : X.Ok) {b : Addr} {o : Obj} (e : X.base.get? b = some o) : b ∉ X.fs := fun hb => by
  have := (ok.funs.mem hb).1
  rw [e] at this; cases this
theorem Inv.bs (I : Inv X pins σ H s) : ∀ b o, X.base.get? b = some o → s.heap.get? b = some o ∧ H b = none := fun b o e =>
  ⟨I.base.keep b o (I.ok.bs b o e).1 (I.ok.bs b o e).2 (I.ok.nofr e) (I.ok.noex b o e), I.base.free b o (I.ok.bs b o e).1 (I.ok.bs b o e).2 (I.ok.noex b o e)⟩
theorem Inv.bk (I : Inv X pins σ H s) : ∀ b o, X.base.get? b = some o → s.heap.get? b = some o := fun b o e => (I.bs b o e).1
theorem Inv.mod (I : Inv X pins σ H s) : Mod X.K X.mg X.base := I.ok.mod
theorem Inv.kIn (I : Inv X pins σ H s) : X.K.In s.heap := I.ok.mod.kin.keeps I.bk
theorem Inv.nolimit (I : Inv X pins σ H s) : s.heap.NoLimit := I.ok.mod.nolimit.keeps I.bk
theorem Inv.fr (I : Inv X pins σ H s) : ∃ m, Fr X.base X.env.locals s.heap m :=
  let ⟨m, hn, _⟩ := I.loc
  ⟨m, hn, I.bk, Nat.le_trans I.ok.bsz I.ok.above⟩
theorem Inv.lt (I : Inv X pins σ H s) : X.env.locals < s.heap.objs.size := let ⟨_, hn, _⟩ := I.loc; hn.lt
theorem Inv.sz (I : Inv X pins σ H s) : X.s_0.heap.objs.size ≤ s.heap.objs.size := Nat.le_trans I.ok.above (Nat.le_of_lt I.lt)
theorem Inv.nofs (I : Inv X pins σ H s) {a : Addr} (h : s.heap.objs.size ≤ a) : a ∉ X.fs := fun hb => by
  obtain ⟨_, o, ho, _⟩ := I.ok.funs.mem hb
  exact absurd (Nat.lt_of_lt_of_le (Heap.lt_size ho) (Nat.le_trans I.sz h)) (Nat.lt_irrefl _)
theorem Inv.cne (I : Inv X pins σ H s) : ∀ x c, X.env.cells.lookup x = some c → c ≠ X.env.locals := fun x c e z => by
  obtain ⟨v, o, ho, hd⟩ := I.cell x c e
  obtain ⟨m, ⟨o', es, ep, ho', hd', _⟩, _⟩ := I.loc
  rw [z, ho'] at ho; cases ho; rw [hd'] at hd; cases hd
theorem Inv.funs (I : Inv X pins σ H s) : s.heap.FunFrames X.base X.outer := by
  have all : ∀ (l : List Env), (∀ b ∈ frs l, b ∈ X.fs) → X.s_0.heap.FunFrames X.base l → s.heap.FunFrames X.base l := by
    intro l
    induction l with
    | nil => intro _ _; trivial
    | cons env r ih =>
      intro hs hl
      obtain ⟨hk, ⟨L, o, hf, hn, ho, hd⟩, hr⟩ := hl
      have hL : L ∈ X.fs := hs L (by unfold frs; rw [List.filterMap_cons, hf]; exact List.mem_cons_self)
      obtain ⟨sl, e⟩ := I.base.slot L o ho (I.ok.frf L hL) hL fun z => I.ok.exfs L z hL
      exact ⟨hk, ⟨L, _, hf, hn, e, hd⟩, ih (fun b hb => hs b (by unfold frs; rw [List.filterMap_cons, hf]; exact List.mem_cons_of_mem _ hb)) hr⟩
  exact all X.outer (fun _ hb => hb) I.ok.funs
theorem Inv.stack (I : Inv X pins σ H s) : s.heap.FunFrames X.base X.stack := by
  rcases I.ok.stk with e | ⟨e, hf⟩
  · rw [e]; exact I.funs
  · rw [e]
    obtain ⟨m, hn, _⟩ := I.loc
    refine .cons (by rw [I.ok.kind]; decide) hf hn ?_ I.funs
    exact Heap.get?_none_of_le (Nat.le_trans I.ok.bsz I.ok.above)
theorem Inv.stkSub (I : Inv X pins σ H s) : ∀ b ∈ frs X.stack, b ∈ X.env.locals :: X.fs := fun b hb => by
  rcases I.ok.stk with e | ⟨e, hf⟩
  · rw [e] at hb; exact List.mem_cons_of_mem _ hb
  · rw [e] at hb
    unfold frs at hb
    rw [List.filterMap_cons, hf] at hb
    exact hb
theorem Inv.stkFree (I : Inv X pins σ H s) : ∀ b ∈ frs X.stack, H b = none := fun b hb => by
  rcases List.mem_cons.mp (I.stkSub b hb) with e | hb
  · rw [e]; exact I.free
  · obtain ⟨_, o, ho, _⟩ := I.ok.funs.mem hb
    exact I.base.free b o ho (I.ok.frf b hb) fun z => I.ok.exfs b z hb
theorem Inv.step {g' : Array GenState} {t' : Nat} {d' : Drawn} {ch : List Addr} (I : Inv X pins σ H s)
    (hch : ∀ b ∈ ch, (b ∈ X.ex ∨ X.s_0.heap.objs.size ≤ b) ∧ b ≠ X.env.locals ∧ (∀ x c, X.env.cells.lookup x = some c → c ≠ b) ∧ ∀ p ∈ X.pn ++ pins, p.1 ≠ b)
    (keep : ∀ b o, b ≠ X.env.locals → b ∉ X.fs → b ∉ ch → s.heap.get? b = some o → H b = none → h'.get? b = some o)
    (slot : ∀ b o, b ≠ X.env.locals → b ∈ X.fs → b ∉ ch → s.heap.get? b = some o → H b = none → ∃ sl, h'.get? b = some { o with slots := sl }) (free : ∀ b o, b ∉ ch → s.heap.get? b = some o → H b = none → H' b = none)
    (there : ∀ b o, b ∉ ch → s.heap.get? b = some o → ∃ o', h'.get? b = some o')
    (tups : ∀ b xs, H b = some (.tup xs) → H' b = some (.tup xs)) (frzs : ∀ b o u, H b = some (.frz o u) → H' b = some (.frz o u)) (tbls : ∀ b ps, H b = some (.tbl ps) → ∃ more, H' b = some (.tbl (ps ++ more)))
    (ns : ∀ m, s.heap.Ns X.env.locals m → h'.Ns X.env.locals m) (hok : HOk X.prog X.w H' h') (hg : AllBare g') :
    Inv X pins σ H' { s with heap := h', gens := g', drawn := d', toks := t' } := by
  have neL : ∀ b o, X.s_0.heap.get? b = some o → b ≠ X.env.locals := fun b o e => Nat.ne_of_lt (Nat.lt_of_lt_of_le (Heap.lt_size e) I.ok.above)
  have neC : ∀ b o, X.s_0.heap.get? b = some o → b ∉ X.ex → b ∉ ch := fun b o e hx hb => by
    rcases (hch b hb).1 with z | z
    · exact hx z
    · exact absurd (Nat.lt_of_lt_of_le (Heap.lt_size e) z) (Nat.lt_irrefl _)
  have cellK : ∀ x c, X.env.cells.lookup x = some c → ∀ v, s.heap.IsCell c v → h'.IsCell c v := fun x c e v ⟨o, ho, hd⟩ => by
    have nch : c ∉ ch := fun z => (hch c z).2.2.1 x c e rfl
    by_cases hc : c ∈ X.fs
    · obtain ⟨sl, q⟩ := slot c o (I.cne x c e) hc nch ho (I.freeC x c e)
      exact ⟨_, q, hd⟩
    · exact ⟨o, keep c o (I.cne x c e) hc nch ho (I.freeC x c e), hd⟩
  refine ⟨I.ok, I.os, hg, ⟨fun b o e n hb hx => ?_, fun b o e n hb hx => ?_, fun b o e n hx => ?_, fun b o e hx => ?_, fun b xs e => tups b xs (I.base.tups b xs e), fun b o xs e => frzs b o xs (I.base.frzs b o xs e), fun b ps e => ?_⟩, ?_, fun x c e => ?_, ?_, fun x c e => ?_, fun p hp => ?_, hok, I.len⟩
  · exact keep b o (neL b o e) hb (neC b o e hx) (I.base.keep b o e n hb hx) (I.base.free b o e n hx)
  · obtain ⟨sl, e1⟩ := I.base.slot b o e n hb hx
    obtain ⟨sl', e2⟩ := slot b _ (neL b o e) hb (neC b o e hx) e1 (I.base.free b o e n hx)
    exact ⟨sl', e2⟩
  · obtain ⟨o', e1⟩ := I.base.there b o e hx
    exact free b o' (neC b o e hx) e1 (I.base.free b o e n hx)
  · obtain ⟨o', e1⟩ := I.base.there b o e hx
    exact there b o' (neC b o e hx) e1
  · obtain ⟨m1, e1⟩ := I.base.tbls b ps e
    obtain ⟨m2, e2⟩ := tbls b _ e1
    exact ⟨m1 ++ m2, by rw [e2, Array.append_assoc]⟩
  · obtain ⟨m, hn, hl⟩ := I.loc
    refine ⟨m, ns m hn, fun i x v e1 e2 e3 => ?_⟩
    obtain ⟨u, r, l⟩ := hl i x v e1 e2 e3
    refine ⟨u, r, ?_⟩
    rcases l with l | ⟨k, c, e, z⟩
    · exact .inl l
    · exact .inr ⟨k, c, e, cellK x c e _ z⟩
  · obtain ⟨v, z⟩ := I.cell x c e
    exact ⟨v, cellK x c e v z⟩
  · obtain ⟨m, ⟨o, _, _, ho, _⟩, _⟩ := I.loc
    exact free _ o (fun z => (hch _ z).2.1 rfl) ho I.free
  · obtain ⟨v, o, ho, hd⟩ := I.cell x c e
    exact free c o (fun z => (hch c z).2.2.1 x c e rfl) ho (I.freeC x c e)
  · obtain ⟨e, n, ne, nf, d⟩ := I.pin p hp
    have nch : p.1 ∉ ch := fun z => (hch p.1 z).2.2.2 p hp rfl
    exact ⟨keep p.1 p.2 ne nf nch e n, free p.1 p.2 nch e n, ne, nf, d⟩
theorem Inv.un {t' : Nat} (I : Inv X pins σ H s) (u : Un X.fs [] H H' s.heap h') (hok : HOk X.prog X.w H' h') : Inv X pins σ H' { s with heap := h', toks := t' } := by
  obtain ⟨m, ⟨o, es, ep, ho, r⟩, _⟩ := id I.loc
  obtain ⟨sl, hL⟩ := u.any ho I.free (by simp)
  exact I.step (g' := s.gens) (d' := s.drawn) (ch := []) (fun _ z => nomatch z) (fun b o _ hb _ e n => u.keep b o e n hb (by simp)) (fun b o _ hb _ e n => u.slot b o e n hb (by simp)) (fun b o _ e n => u.free b o e n (by simp)) (fun b o _ e => u.there b o e (by simp)) u.tups u.frzs u.tbls (fun m' hm => by
    obtain ⟨o', es', ep', ho', r'⟩ := hm
    rw [ho] at ho'; cases ho'
    exact ⟨_, es', ep', hL, r'⟩) hok I.bare
theorem Inv.call {g' : Array GenState} {t' : Nat} {d' : Drawn} {ch : List Addr} (I : Inv X pins σ H s) (u : Un (frs X.stack) ch H H' s.heap h') (hok : HOk X.prog X.w H' h') (hg : AllBare g')
    (hch : ∀ b ∈ ch, (b ∈ X.ex ∨ X.s_0.heap.objs.size ≤ b) ∧ b ≠ X.env.locals ∧ (∀ x c, X.env.cells.lookup x = some c → c ≠ b) ∧ ∀ p ∈ X.pn ++ pins, p.1 ≠ b) :
    Inv X pins σ H' { s with heap := h', gens := g', drawn := d', toks := t' } := by
  obtain ⟨m, ⟨o, es, ep, ho, r⟩, _⟩ := id I.loc
  obtain ⟨sl, hL⟩ := u.any ho I.free fun z => (hch _ z).2.1 rfl
  exact I.step (ch := ch) hch (fun b o hL hb hc e n => u.keep b o e n (fun z => (List.mem_cons.mp (I.stkSub b z)).elim hL hb) hc) (fun b o _ _ hc e n => u.any e n hc) (fun b o hc e n => u.free b o e n hc) (fun b o hc e => u.there b o e hc) u.tups u.frzs u.tbls (fun m' hm => by
    obtain ⟨o', es', ep', ho', r'⟩ := hm
    rw [ho] at ho'; cases ho'
    exact ⟨_, es', ep', hL, r'⟩) hok hg
theorem Inv.turned {t' : Nat} {it : Addr} (I : Inv X pins σ H s) (k : ∀ b o, b ≠ it → s.heap.get? b = some o → h'.get? b = some o) (hn : H it = none) (hL : it ≠ X.env.locals)
    (h1 : it ∈ X.ex ∨ X.s_0.heap.objs.size ≤ it) (h2 : ∀ x c, X.env.cells.lookup x = some c → c ≠ it) (h3 : ∀ p ∈ X.pn ++ pins, p.1 ≠ it) : Inv X pins σ H { s with heap := h', toks := t' } := by
  have nit : ∀ b u, H b = some u → b ≠ it := fun b u e z => by rw [z, hn] at e; cases e
  refine I.step (g' := s.gens) (d' := s.drawn) (ch := [it]) (fun b hb => ?_) (fun b o _ _ hc e _ => k b o (fun z => hc (by simp [z])) e) (fun b o _ _ hc e _ => ⟨o.slots, k b o (fun z => hc (by simp [z])) e⟩) (fun _ _ _ _ n => n)
    (fun b o hc e => ⟨o, k b o (fun z => hc (by simp [z])) e⟩) (fun _ _ e => e) (fun _ _ _ e => e) (fun b ps e => ⟨#[], by rw [e]; simp⟩) (fun m hm => ?_) (fun b u e => ?_) I.bare
  · have e : b = it := by simpa using hb
    subst e
    exact ⟨h1, hL, h2, h3⟩
  · obtain ⟨o, es, ep, ho, r⟩ := hm
    exact ⟨o, es, ep, k _ o (Ne.symm hL) ho, r⟩
  · refine (I.hok b u e).stay (fun c v hc q => k c v ?_ q) (fun _ q => q) fun _ _ q => q
    rcases hc with z | z
    · rw [z]; exact nit b u e
    · exact nit c _ z
theorem Inv.tok (I : Inv X pins σ H s) (t : Nat) : Inv X pins σ H { s with toks := t } := I.un (h' := s.heap) (t' := t) Un.refl I.hok
theorem Inv.kept {t' : Nat} (I : Inv X pins σ H s) (k : ∀ b u, s.heap.get? b = some u → h'.get? b = some u) : Inv X pins σ H { s with heap := h', toks := t' } := I.un (Un.kept k) (I.hok.kept k)
theorem Inv.laid {a : Addr} {o : HO} {t' : Nat} (I : Inv X pins σ H s) (k : ∀ b u, s.heap.get? b = some u → h'.get? b = some u) (hp : s.heap.objs.size ≤ a) (new : ObjOk X.prog X.w (upd H a o) h' a o) :
    Inv X pins σ (upd H a o) { s with heap := h', toks := t' } := I.un (Un.laid k hp (I.hok.fresh hp)) (I.hok.laid k hp new)
theorem Inv.write {x e : Addr} {o : HO} {t' : Nat} (I : Inv X pins σ H s) (mu : Mut (H x)) (he : e = x ∨ H e = some (.own x)) (k : ∀ b u, b ≠ e → s.heap.get? b = some u → h'.get? b = some u) (heo : ∃ u, h'.get? e = some u)
    (new : ObjOk X.prog X.w (upd H x o) h' x o) : Inv X pins σ (upd H x o) { s with heap := h', toks := t' } := I.un (Un.write mu he k heo) (I.hok.write mu he k heo new)
theorem Inv.weak {σ' : List (Option V)} (I : Inv X pins σ H s) (hl : σ'.length = σ.length) (w : ∀ (i : Nat) v, σ'[i]? = some (some v) → σ[i]? = some (some v)) : Inv X pins σ' H s :=
  ⟨I.ok, I.os, I.bare, I.base, let ⟨m, hn, hl'⟩ := I.loc; ⟨m, hn, fun i x v e1 e2 e3 => hl' i x v e1 (w i v e2) e3⟩, I.cell, I.free, I.freeC, I.pin, I.hok, hl.trans I.len⟩
theorem Inv.pins_of {pins' : List (Addr × Obj)} (I : Inv X pins σ H s) (h : ∀ p ∈ pins', s.heap.get? p.1 = some p.2 ∧ H p.1 = none ∧ p.1 ≠ X.env.locals ∧ p.1 ∉ X.fs ∧ ∀ v, p.2.data ≠ .cell v) : Inv X pins' σ H s :=
  ⟨I.ok, I.os, I.bare, I.base, I.loc, I.cell, I.free, I.freeC, fun p hp => (List.mem_append.mp hp).elim (fun z => I.pin p (List.mem_append_left _ z)) (h p), I.hok, I.len⟩
theorem nodup_ix {N : List Str} (hN : N.Nodup) {i j : Nat} {x : Str} (a : N[i]? = some x) (b : N[j]? = some x) : i = j := by
  obtain ⟨h1, e1⟩ := List.getElem?_eq_some_iff.mp a
  obtain ⟨h2, e2⟩ := List.getElem?_eq_some_iff.mp b
  exact (List.getElem_inj hN).mp (e1.trans e2.symm)
theorem store_ok2 {M : Model} {A : Around} {E : Value → Shared → Prop} {i : Nat} {x : Str} {v : V} {u : Value} {Q : Unit → Shared → Prop} (I : Inv X pins σ H s) (hN : X.N.Nodup) (hi : X.N[i]? = some x) (hx : Loc X.env.scope x) (r : RelV v u)
    (h : ∀ s', Inv X pins (σ.set i (some v)) H s' → (∃ a, Heap.SameBut a s.heap s'.heap ∧ (a = X.env.locals ∨ X.env.cells.lookup x = some a)) → Q () s') (hf : X.fn x = true ∨ X.env.scope.names.lookup x = some .local := by first | exact .inl rfl | exact .inr rfl | assumption) : wpAny M A (storeName X.env x u) Q E s := by
  obtain ⟨m, hn, hl⟩ := id I.loc
  have hcls : (X.env.scope.kind == .class || (X.env.scope.kind == .module && X.env.locals != X.env.globals)) = false := by rw [I.ok.kind]; rfl
  have hiσ : i < σ.length := by rw [I.len]; exact (List.getElem?_eq_some_iff.mp hi).1
  have cne := I.cne
  have tracked : ∀ {a : Addr} {h' : Heap}, (∃ o, s.heap.get? a = some o ∧ H a = none) → Heap.SameBut a s.heap h' → HOk X.prog X.w H h' := fun {a h'} ha hs b ob e => by
    obtain ⟨_, _, hfree⟩ := ha
    refine (I.hok b ob e).stay (fun c w' hc q => (hs.2 c ?_).trans q) (fun _ q => q) fun _ _ q => q
    rintro rfl
    rcases hc with rfl | hc
    · rw [hfree] at e; cases e
    · rw [hfree] at hc; cases hc
  rcases hx with hk | hk
  · refine wpAny_storeName_local hk hn (fun h' hn' hs => ?_) hcls
    obtain ⟨oL, _, _, hoL, _⟩ := id hn
    refine h _ ⟨I.ok, I.os, I.bare, ⟨fun b o e n hb hx => ?_, fun b o e n hb hx => ?_, I.base.free, fun b o e hx => ?_, I.base.tups, I.base.frzs, I.base.tbls⟩, ⟨_, hn', fun j y v' e1 e2 e3 => ?_⟩, fun y c e => ?_, I.free, I.freeC, fun p hp => ?_, tracked ⟨oL, hoL, I.free⟩ hs, by simpa using I.len⟩ ⟨_, hs, .inl rfl⟩
    · exact (hs.2 b (Nat.ne_of_lt (Nat.lt_of_lt_of_le (Heap.lt_size e) I.ok.above))).trans (I.base.keep b o e n hb hx)
    · obtain ⟨sl, e1⟩ := I.base.slot b o e n hb hx
      exact ⟨sl, (hs.2 b (Nat.ne_of_lt (Nat.lt_of_lt_of_le (Heap.lt_size e) I.ok.above))).trans e1⟩
    · obtain ⟨o', e1⟩ := I.base.there b o e hx
      exact ⟨o', (hs.2 b (Nat.ne_of_lt (Nat.lt_of_lt_of_le (Heap.lt_size e) I.ok.above))).trans e1⟩
    · by_cases hj : j = i
      · subst hj
        rw [hi] at e1; cases e1
        rw [List.getElem?_set_self hiσ] at e2
        cases e2
        exact ⟨u, r, .inl ⟨hk, by simp⟩⟩
      · rw [List.getElem?_set_ne (Ne.symm hj)] at e2
        obtain ⟨u', r', q⟩ := hl j y v' e1 e2 e3
        refine ⟨u', r', ?_⟩
        rcases q with ⟨k, e⟩ | ⟨k, c, e, z⟩
        · refine .inl ⟨k, ?_⟩
          have : y ≠ x := fun e => hj (nodup_ix hN e1 (e ▸ hi))
          simp [this, e]
        · exact .inr ⟨k, c, e, z.sameBut hs (cne y c e)⟩
    · obtain ⟨w', z⟩ := I.cell y c e
      exact ⟨w', z.sameBut hs (cne y c e)⟩
    · obtain ⟨e, n, ne, nf, d⟩ := I.pin p hp
      exact ⟨(hs.2 p.1 ne).trans e, n, ne, nf, d⟩
  · have hfn : X.fn x = true := by
      rcases hf with z | z
      · exact z
      · rw [z] at hk; cases hk
    obtain ⟨c, hc⟩ := I.ok.has x (.inl hk)
    obtain ⟨w', z⟩ := I.cell x c hc
    refine wpAny_storeName_cell I.ok.kind hk hc z (fun h' hc' hs => ?_)
    obtain ⟨oc, hoc, hocd⟩ := id z
    refine h { s with heap := h' } ⟨I.ok, I.os, I.bare, ⟨fun b o e n hb hx => ?_, fun b o e n hb hx => ?_, I.base.free, fun b o e hx => ?_, I.base.tups, I.base.frzs, I.base.tbls⟩, ⟨m, hn.sameBut hs (Ne.symm (cne x c hc)), fun j y v' e1 e2 e3 => ?_⟩, fun y c' e => ?_, I.free, I.freeC, fun p hp => ?_, tracked ⟨oc, hoc, I.freeC x c hc⟩ hs, by simpa using I.len⟩ ⟨c, hs, .inr hc⟩
    · exact (hs.2 b (Nat.ne_of_lt (Nat.lt_of_lt_of_le (Heap.lt_size e) (I.ok.cab x c hfn hc)))).trans (I.base.keep b o e n hb hx)
    · obtain ⟨sl, e1⟩ := I.base.slot b o e n hb hx
      exact ⟨sl, (hs.2 b (Nat.ne_of_lt (Nat.lt_of_lt_of_le (Heap.lt_size e) (I.ok.cab x c hfn hc)))).trans e1⟩
    · obtain ⟨o', e1⟩ := I.base.there b o e hx
      exact ⟨o', (hs.2 b (Nat.ne_of_lt (Nat.lt_of_lt_of_le (Heap.lt_size e) (I.ok.cab x c hfn hc)))).trans e1⟩
    · by_cases hj : j = i
      · subst hj
        rw [hi] at e1; cases e1
        rw [List.getElem?_set_self hiσ] at e2
        cases e2
        exact ⟨u, r, .inr ⟨.inl hk, c, hc, hc'⟩⟩
      · rw [List.getElem?_set_ne (Ne.symm hj)] at e2
        obtain ⟨u', r', q⟩ := hl j y v' e1 e2 e3
        refine ⟨u', r', ?_⟩
        rcases q with q | ⟨k, c', e, z'⟩
        · exact .inl q
        · refine .inr ⟨k, c', e, z'.sameBut hs ?_⟩
          rintro rfl
          exact hj (nodup_ix hN e1 (I.ok.inj _ _ _ e hc ▸ hi))
    · by_cases hcc : c' = c
      · subst hcc; exact ⟨_, hc'⟩
      · obtain ⟨w2, z2⟩ := I.cell y c' e
        exact ⟨w2, z2.sameBut hs hcc⟩
    · obtain ⟨e, n, ne, nf, d⟩ := I.pin p hp
      refine ⟨(hs.2 p.1 ?_).trans e, n, ne, nf, d⟩
      intro q
      rw [q, hoc] at e
      have q' : oc = p.2 := Option.some.inj e
      exact d w' (by rw [← q']; exact hocd)
theorem store_ok {M : Model} {A : Around} {E : Value → Shared → Prop} {i : Nat} {x : Str} {v : V} {u : Value} {Q : Unit → Shared → Prop} (I : Inv X pins σ H s) (hN : X.N.Nodup) (hi : X.N[i]? = some x) (hx : Loc X.env.scope x) (r : RelV v u)
    (h : ∀ s', Inv X pins (σ.set i (some v)) H s' → Q () s') (hf : X.fn x = true ∨ X.env.scope.names.lookup x = some .local := by first | exact .inl rfl | exact .inr rfl | assumption) : wpAny M A (storeName X.env x u) Q E s :=
  store_ok2 I hN hi hx r (fun s' I' _ => h s' I') hf
theorem Inv.call' {s' : Shared} {ch : List Addr} (I : Inv X pins σ H s) (ho : s'.os = s.os) (u : Un (frs X.stack) ch H H' s.heap s'.heap) (hok : HOk X.prog X.w H' s'.heap) (hg : AllBare s'.gens)
    (hch : ∀ b ∈ ch, (b ∈ X.ex ∨ X.s_0.heap.objs.size ≤ b) ∧ b ≠ X.env.locals ∧ (∀ x c, X.env.cells.lookup x = some c → c ≠ b) ∧ ∀ p ∈ X.pn ++ pins, p.1 ≠ b) : Inv X pins σ H' s' := by
  obtain ⟨h', g', d', t', o'⟩ := s'
  have e : o' = s.os := ho
  subst e
  exact I.call (g' := g') (t' := t') (d' := d') u hok hg hch
end
noncomputable abbrev XK := Value → Option Addr → Hp → Prop
noncomputable abbrev St := List (Option V)
noncomputable abbrev VK := V → Hp → Prop
noncomputable abbrev TE := St → Hp → VK → Prop
noncomputable abbrev TT := St → Hp → (Bool → Hp → Prop) → Prop
noncomputable abbrev TA := St → Hp → (List V → Hp → Prop) → Prop
structure Ends where
  nx : St → Hp → Prop
  rt : VK
  bk : St → Hp → Prop := fun _ _ => False
  ct : St → Hp → Prop := fun _ _ => False
noncomputable abbrev TS := Ends → St → Hp → Prop
noncomputable def EP (X : Cx) (pins : List (Addr × Obj)) (σ : St) (Q : VK) (u : Value) (s' : Shared) : Prop := ∃ v H', Inv X pins σ H' s' ∧ RelV v u ∧ Q v H'
noncomputable def TP (X : Cx) (pins : List (Addr × Obj)) (σ : St) (Q : Bool → Hp → Prop) (b : Bool) (s' : Shared) : Prop := ∃ H', Inv X pins σ H' s' ∧ Q b H'
noncomputable def AP (X : Cx) (pins : List (Addr × Obj)) (σ : St) (Q : List V → Hp → Prop) (us : List Value) (s' : Shared) : Prop := ∃ vs H', Inv X pins σ H' s' ∧ Vals vs us ∧ Q vs H'
noncomputable def SP (X : Cx) (pins : List (Addr × Obj)) (D : Ends) (f : Flow) (s' : Shared) : Prop :=
  match f with
  | .next => ∃ σ' H', Inv X pins σ' H' s' ∧ D.nx σ' H'
  | .brk => ∃ σ' H', Inv X pins σ' H' s' ∧ D.bk σ' H'
  | .cont => ∃ σ' H', Inv X pins σ' H' s' ∧ D.ct σ' H'
  | .ret u => ∃ v σ' H', Inv X pins σ' H' s' ∧ RelV v u ∧ D.rt v H'
noncomputable def PE (X : Cx) (e : Expr) (t : TE) : Prop :=
  ∀ (pins : List (Addr × Obj)) (s : Shared) (σ : St) (H : Hp) (Q : VK), Inv X pins σ H s → t σ H Q → wpAny (model X.prog X.w) X.A (eval e X.env) (EP X pins σ Q) X.xe s
noncomputable def PT (X : Cx) (e : Expr) (t : TT) : Prop :=
  ∀ (pins : List (Addr × Obj)) (s : Shared) (σ : St) (H : Hp) (Q : Bool → Hp → Prop), Inv X pins σ H s → t σ H Q → wpAny (model X.prog X.w) X.A (isTrue e X.env (eval e X.env)) (TP X pins σ Q) X.xe s
noncomputable def PW (X : Cx) (e : Expr) (t : TT) : Prop :=
  ∀ (whole : Sem Value) (pins : List (Addr × Obj)) (s : Shared) (σ : St) (H : Hp) (Q : Bool → Hp → Prop), Inv X pins σ H s → t σ H Q → wpAny (model X.prog X.w) X.A (isTrue e X.env whole) (TP X pins σ Q) X.xe s
theorem PW.pt {X : Cx} {e : Expr} {t : TT} (h : PW X e t) : PT X e t := h _
noncomputable def PA (X : Cx) (es : List Expr) (t : TA) : Prop :=
  ∀ (pos : Pos) (pins : List (Addr × Obj)) (s : Shared) (σ : St) (H : Hp) (Q : List V → Hp → Prop), Inv X pins σ H s → t σ H Q → wpAny (model X.prog X.w) X.A (spliced (backTo pos (starEach es X.env))) (AP X pins σ Q) X.xe s
noncomputable def PS (X : Cx) (st : Stmt) (t : TS) : Prop :=
  ∀ (pins : List (Addr × Obj)) (s : Shared) (σ : St) (H : Hp) (D : Ends), Inv X pins σ H s → t D σ H → wpAny (model X.prog X.w) X.A (exec st X.env) (SP X pins D) X.xe s
noncomputable def PSs (X : Cx) (st : List Stmt) (t : TS) : Prop :=
  ∀ (pins : List (Addr × Obj)) (s : Shared) (σ : St) (H : Hp) (D : Ends), Inv X pins σ H s → t D σ H → wpAny (model X.prog X.w) X.A (execs st X.env) (SP X pins D) X.xe s
theorem thn {α : Type} {t : Sem α} {Q Q' : α → Shared → Prop} {M : Model} {A : Around} {E : Value → Shared → Prop} {s : Shared} (h : wpAny M A t Q E s) (hQ : ∀ a s, Q a s → Q' a s) : wpAny M A t Q' E s := wpAny_mono h hQ fun _ _ x => x
end L2
namespace L2
open PySem PySem.Spec PyProof.Rows
section
variable {X : Cx}
noncomputable def tVar (i : Nat) : TE := fun σ H Q => ∃ v, σ[i]? = some (some v) ∧ Q v H
noncomputable def tC (v : V) : TE := fun _ H Q => Q v H
theorem pe_var {i : Nat} {x : Str} {pos : Pos} (hN : X.N[i]? = some x) (hv : Vis X.env.scope x) (hd : (x == ("__debug__" : Str)) = false := by decide) (hcd : (x == ("__classdict__" : Str)) = false := by decide) : PE X (.Name x pos) (tVar i) := by
  intro pins s σ H Q I h
  obtain ⟨v, e, h⟩ := h
  obtain ⟨m, hn, hl⟩ := I.loc
  obtain ⟨u, r, l⟩ := hl i x v hN e hv
  have fin : EP X pins σ Q u s := ⟨v, H, I, r, h⟩
  rcases l with ⟨hk, hm⟩ | ⟨hk, c, hc, hcell⟩
  · exact wpAny_Name (wpAny_loadName_local I.ok.kind hk hn hm fin) hd
  · rcases hk with hk | hk
    · exact wpAny_Name (wpAny_loadName_cell I.ok.kind hk hc hcell fin) hd
    · exact wpAny_Name (wpAny_loadName_free I.ok.kind hk hc hcell fin hcd) hd
theorem pe_int {i j pos} : PE X (.Constant (.int i) j pos) (tC (.int i)) := fun _ _ _ H _ I h => wpAny_Constant_int ⟨.int i, H, I.tok _, ⟨_, rfl⟩, h⟩
theorem pe_bl {b j pos} : PE X (.Constant (.bool b) j pos) (tC (.bl b)) := fun _ _ _ H _ I h => Constant_bool ⟨.bl b, H, I, rfl, h⟩
theorem pe_str {x j pos} : PE X (.Constant (.str x) j pos) (tC (.str x)) := fun _ _ _ H _ I h => Calls.Constant_str ⟨.str x, H, I.tok _, ⟨_, rfl⟩, h⟩
noncomputable def Gl (X : Cx) (x : Str) : Prop := X.env.kindOf x = some .globalImplicit
theorem ld_glob {E : Value → Shared → Prop} {pins : List (Addr × Obj)} {s : Shared} {σ : St} {H : Hp} {x : Str} {u : Value} {pos : Pos} {Q : Value → Shared → Prop} (I : Inv X pins σ H s) (hg : Gl X x) (hm : X.mg x = some u) (h : Q u s)
    (hd : (x == ("__debug__" : Str)) = false := by decide) : wpAny (model X.prog X.w) X.A (eval (.Name x pos) X.env) Q E s :=
  Calls.Name_function_global I.ok.kind hg (Calls.loadGlobal_global (by rw [I.ok.glob]; exact I.mod.glob.keeps I.bk) hm h) hd
theorem ld_blt {E : Value → Shared → Prop} {pins : List (Addr × Obj)} {s : Shared} {σ : St} {H : Hp} {x : Str} {u : Value} {pos : Pos} {Q : Value → Shared → Prop} (I : Inv X pins σ H s) (hg : Gl X x) (hm : X.mg x = none) (hv : bootBuiltins x = some u) (h : Q u s)
    (hn : x ≠ "__name__" := by decide) (hd : (x == ("__debug__" : Str)) = false := by decide) : wpAny (model X.prog X.w) X.A (eval (.Name x pos) X.env) Q E s := by
  obtain ⟨mb, h1, h2⟩ := I.mod.blt
  exact Calls.Name_function_global I.ok.kind hg (Calls.loadGlobal_builtin (by rw [I.ok.glob]; exact I.mod.glob.keeps I.bk) hm (by rw [I.ok.blt]; exact h1.keeps I.bk) ((h2 x hn).trans hv) h) hd
theorem pe_glob {x : Str} {v : V} {u : Value} {pos : Pos} (hg : Gl X x) (hm : X.mg x = some u) (r : RelV v u) (hd : (x == ("__debug__" : Str)) = false := by decide) : PE X (.Name x pos) (tC v) :=
  fun _ _ _ H _ I h => ld_glob I hg hm ⟨v, H, I, r, h⟩ hd
noncomputable def t2I (ta tb : TE) (k : Int → Int → Hp → Prop) : St → Hp → Prop := fun σ H => ta σ H fun x H1 => tb σ H1 fun y H2 => ∃ i j, x = .int i ∧ y = .int j ∧ k i j H2
variable {a b : Expr} {ta tb : TE} {pos : Pos}
noncomputable def PC (X : Cx) (op : CmpOp) (a b : Expr) (t : TE) : Prop :=
  ∀ (pins : List (Addr × Obj)) (s : Shared) (σ : St) (H : Hp) (Q : VK), Inv X pins σ H s → t σ H Q →
    wpAny (model X.prog X.w) X.A (eval a X.env) (fun v s₁ => wpAny (model X.prog X.w) X.A (eval b X.env) (fun u s₂ => wpAny (model X.prog X.w) X.A (compareOp op v u) (EP X pins σ Q) X.xe s₂) X.xe s₁) X.xe s
theorem nobehind (b : Expr) {op : CmpOp} (h : op ≠ .In) (h2 : op ≠ .NotIn) : behindInMarks op b = false := by
  have e1 : (op == CmpOp.In) = false := by cases op <;> first | rfl | exact absurd rfl h
  have e2 : (op == CmpOp.NotIn) = false := by cases op <;> first | rfl | exact absurd rfl h2
  cases b <;> simp [behindInMarks, e1, e2]
noncomputable def tIsN (ta : TE) : TE := fun σ H Q => ta σ H fun x H1 => Q (.bl (decide (x = .non))) H1
noncomputable def tNotN (ta : TE) : TE := fun σ H Q => ta σ H fun x H1 => Q (.bl (!decide (x = .non))) H1
noncomputable def tB (t : TE) : TT := fun σ H Q => t σ H fun x H1 => ∃ c, x = .bl c ∧ Q c H1
theorem pt_cmp {op : CmpOp} {t : TE} (h : PC X op a b t) (h1 : behindInMarks op b = false := by first | exact nobehind _ (by decide) (by decide) | rfl) : PT X (.Compare a [op] [b] pos) (tB t) := by
  intro pins s σ H Q I hw
  refine wpAny_isTrue_Compare1 (thn (h pins s σ H _ I hw) fun v s1 h1 => thn h1 fun u s2 h2 => thn h2 fun c s3 ⟨x, H1, I1, r1, q1⟩ => ?_) h1
  obtain ⟨d, rfl, q⟩ := q1
  cases r1
  exact wpAny_truthy_bool ⟨H1, I1, q⟩
theorem pt_val {e : Expr} {t : TE} (h : PE X e t) (he : ∀ whole, isTrue e X.env whole = (do let v ← whole; standAt e.pos; holding [v] (truthy v)) := by intro _; rfl) : PT X e (tB t) := by
  intro pins s σ H Q I hw
  refine isTrue_plain (thn (h pins s σ H _ I hw) fun v s1 ⟨x, H1, I1, r1, q1⟩ => ?_) (he _)
  obtain ⟨d, rfl, q⟩ := q1
  cases r1
  exact wpAny_truthy_bool ⟨H1, I1, q⟩
variable {tA tB' : TT} {rest : List Expr}
noncomputable def tAnd (t u : TT) : TT := fun σ H Q => t σ H fun c H1 => if c = true then u σ H1 Q else Q false H1
noncomputable def tOr (t u : TT) : TT := fun σ H Q => t σ H fun c H1 => if c = true then Q true H1 else u σ H1 Q
noncomputable def tNot (t : TT) : TT := fun σ H Q => t σ H fun c H1 => Q (!c) H1
theorem pw_and1 (ha : PT X a tA) : PW X (.BoolOp .And [a] pos) tA := by
  intro wh pins s σ H Q I h
  refine isTrue_and (thn (ha pins s σ H Q I h) fun c s1 e => ?_)
  cases c with
  | true => exact isTrue_and_nil e
  | false => exact e
theorem pw_or1 (ha : PT X a tA) : PW X (.BoolOp .Or [a] pos) tA := by
  intro wh pins s σ H Q I h
  refine isTrue_or (thn (ha pins s σ H Q I h) fun c s1 e => ?_)
  cases c with
  | false => exact isTrue_or_nil e
  | true => exact e
theorem pw_and (ha : PT X a tA) (hb : PW X (.BoolOp .And (b :: rest) pos) tB') : PW X (.BoolOp .And (a :: b :: rest) pos) (tAnd tA tB') := by
  intro wh pins s σ H Q I h
  refine isTrue_and (thn (ha pins s σ H _ I h) fun c s1 ⟨H1, I1, q1⟩ => ?_)
  cases c with
  | true => exact hb wh pins s1 σ H1 Q I1 q1
  | false => exact ⟨H1, I1, q1⟩
theorem pw_or (ha : PT X a tA) (hb : PW X (.BoolOp .Or (b :: rest) pos) tB') : PW X (.BoolOp .Or (a :: b :: rest) pos) (tOr tA tB') := by
  intro wh pins s σ H Q I h
  refine isTrue_or (thn (ha pins s σ H _ I h) fun c s1 ⟨H1, I1, q1⟩ => ?_)
  cases c with
  | true => exact ⟨H1, I1, q1⟩
  | false => exact hb wh pins s1 σ H1 Q I1 q1
theorem pt_not (ha : PT X a tA) : PT X (.UnaryOp .Not a pos) (tNot tA) := by
  intro pins s σ H Q I h
  exact isTrue_not (ha pins s σ H (fun c H1 => Q (!c) H1) I h)
noncomputable def tAndV (ta tb : TE) : TE := fun σ H Q => ta σ H fun x H1 => ∃ c, x = .bl c ∧ if c = true then tb σ H1 Q else Q (.bl false) H1
noncomputable def tOrV (ta tb : TE) : TE := fun σ H Q => ta σ H fun x H1 => ∃ c, x = .bl c ∧ if c = true then Q (.bl true) H1 else tb σ H1 Q
noncomputable def tNotV (ta : TE) : TE := fun σ H Q => ta σ H fun x H1 => ∃ c, x = .bl c ∧ Q (.bl (!c)) H1
theorem pe_one {op} {t : TE} (h : PE X a t) : PE X (.BoolOp op [a] pos) t := fun pins s σ H Q I hw => BoolOp_one (h pins s σ H Q I hw)
theorem pe_and (ha : PE X a ta) (hb : PE X (.BoolOp .And (b :: rest) pos) tb) : PE X (.BoolOp .And (a :: b :: rest) pos) (tAndV ta tb) := by
  intro pins s σ H Q I h
  refine BoolOp_and (thn (ha pins s σ H _ I h) fun v s1 ⟨x, H1, I1, r1, q1⟩ => ?_)
  obtain ⟨c, rfl, q1⟩ := q1
  cases r1
  refine wpAny_truthy_bool ?_
  cases c with
  | true => exact hb pins s1 σ H1 Q I1 q1
  | false => exact ⟨.bl false, H1, I1, rfl, q1⟩
noncomputable def tIf (t : TT) (ta tb : TE) : TE := fun σ H Q => t σ H fun c H1 => if c = true then ta σ H1 Q else tb σ H1 Q
theorem pe_ifExp {c : Expr} (hc : PT X c tA) (ha : PE X a ta) (hb : PE X b tb) : PE X (.IfExp c a b pos) (tIf tA ta tb) := by
  intro pins s σ H Q I h
  refine wpAny_IfExp (thn (hc pins s σ H _ I h) fun d s1 ⟨H1, I1, q1⟩ => ?_)
  cases d with
  | true => exact ha pins s1 σ H1 Q I1 q1
  | false => exact hb pins s1 σ H1 Q I1 q1
end
end L2
namespace L2
open PySem PySem.Spec PyProof.Rows
noncomputable def SqL (K : PySem.W.Frag) (H : Hp) (a : Addr) (xs : List V) : Prop :=
  Rd H a (.lst xs) ∨
    ∃ (o : Obj) (its : Array Value) (n : Nat), K.lookup a = some o ∧ o.cls = .type "list" ∧ o.dict = none ∧ o.data = .seq its n ∧ its.size ≤ sizeLine ∧ Vals xs its.toList
noncomputable def SqT (K : PySem.W.Frag) (H : Hp) (a : Addr) (xs : List V) : Prop :=
  Rd H a (.tup xs) ∨
    ∃ (o : Obj) (its : Array Value) (n : Nat), K.lookup a = some o ∧ o.cls = .type "tuple" ∧ o.data = .seq its n ∧ its.size ≤ sizeLine ∧ Vals xs its.toList
noncomputable def absV : Value → Option V
  | .none => some .non
  | .bool b => some (.bl b)
  | .int i _ => some (.int i)
  | .str x _ => some (.str x)
  | .bytes b _ => some (.byt b)
  | .float b _ => some (.flt b)
  | .ref a => some (.ref a)
  | .type n => some (.ty n)
  | _ => none
theorem RelV.abs {x : V} {u : Value} (r : RelV x u) : absV u = some x := by
  cases x with
  | non => cases r; rfl
  | bl _ => cases r; rfl
  | int _ => obtain ⟨t, rfl⟩ := r; rfl
  | str _ => obtain ⟨t, rfl⟩ := r; rfl
  | byt _ => obtain ⟨t, rfl⟩ := r; rfl
  | flt _ => obtain ⟨t, rfl⟩ := r; rfl
  | ref _ => cases r; rfl
  | ty _ => cases r; rfl
theorem RelV.inj {x y : V} {u : Value} (r : RelV x u) (q : RelV y u) : x = y := Option.some.inj (r.abs.symm.trans q.abs)
theorem Vals.inj : ∀ {xs ys : List V} {us : List Value}, Vals xs us → Vals ys us → xs = ys
  | _, _, _, .nil, .nil => rfl
  | _, _, _, .cons r t, .cons r' t' => by rw [r.inj r', Vals.inj t t']
section
variable {X : Cx} {pins : List (Addr × Obj)} {σ : St} {H : Hp} {s : Shared} {a : Addr} {xs ys : List V}
theorem SqL.of {K : PySem.W.Frag} (h : H a = some (.lst xs)) : SqL K H a xs := .inl (.inl h)
theorem SqT.of {K : PySem.W.Frag} (h : H a = some (.tup xs)) : SqT K H a xs := .inl (.inl h)
theorem Inv.list (I : Inv X pins σ H s) (h : SqL X.K H a xs) : ∃ its : List Value, Vals xs its ∧ PlainL s.heap a its.toArray ∧ xs.length ≤ sizeLine := by
  rcases h with h | ⟨o, its, n, hk, hc, hd, hs, hz, r⟩
  · obtain ⟨z, its, n, r, e⟩ := h.ok I.hok
    exact ⟨its, r, ⟨_, n, e, rfl, rfl, rfl⟩, z⟩
  · refine ⟨its.toList, r, ⟨o, n, I.kIn a o hk, hc, hd, by simpa using hs⟩, ?_⟩
    have e := r.length
    simp only [Array.length_toList] at e
    omega
theorem Inv.tuple (I : Inv X pins σ H s) (h : SqT X.K H a xs) : ∃ its : List Value, Vals xs its ∧ IsTup s.heap a its.toArray ∧ xs.length ≤ sizeLine := by
  rcases h with h | ⟨o, its, n, hk, hc, hs, hz, r⟩
  · obtain ⟨z, its, r, p⟩ := h.ok I.hok
    exact ⟨its, r, p, z⟩
  · refine ⟨its.toList, r, ⟨o, I.kIn a o hk, hc, n, by simpa using hs⟩, ?_⟩
    have e := r.length
    simp only [Array.length_toList] at e
    omega
theorem Inv.list_inj (I : Inv X pins σ H s) (h : SqL X.K H a xs) (h' : SqL X.K H a ys) : xs = ys := by
  obtain ⟨its, r, ⟨o, n, e, _, _, d⟩, _⟩ := I.list h
  obtain ⟨its', r', ⟨o', n', e', _, _, d'⟩, _⟩ := I.list h'
  rw [e] at e'; cases e'
  rw [d] at d'
  injection d' with d1 _
  have : its = its' := by simpa using congrArg Array.toList d1
  subst this
  exact r.inj r'
theorem Inv.tuple_inj (I : Inv X pins σ H s) (h : SqT X.K H a xs) (h' : SqT X.K H a ys) : xs = ys := by
  obtain ⟨its, r, ⟨o, e, _, n, d⟩, _⟩ := I.tuple h
  obtain ⟨its', r', ⟨o', e', _, n', d'⟩, _⟩ := I.tuple h'
  rw [e] at e'; cases e'
  rw [d] at d'
  injection d' with d1 _
  have : its = its' := by simpa using congrArg Array.toList d1
  subst this
  exact r.inj r'
end
noncomputable abbrev Cx.wish (X : Cx) (E : Value → Shared → Prop) : Cx := { X with xe := E }
noncomputable abbrev Cx.nox (X : Cx) : Cx := X.wish fun _ _ => False
theorem Cx.Ok.wish {X : Cx} (ok : X.Ok) (E : Value → Shared → Prop) : (X.wish E).Ok :=
  ⟨ok.mod, ok.kind, ok.glob, ok.blt, ok.above, ok.inj, ok.has, ok.cab, ok.hd, ok.frames, ok.stk, ok.exf, ok.bs, ok.bsz, ok.noex, ok.exfs, ok.funs, ok.frf⟩
theorem Cx.Ok.unwish {X : Cx} {E : Value → Shared → Prop} (ok : (X.wish E).Ok) : X.Ok :=
  ⟨ok.mod, ok.kind, ok.glob, ok.blt, ok.above, ok.inj, ok.has, ok.cab, ok.hd, ok.frames, ok.stk, ok.exf, ok.bs, ok.bsz, ok.noex, ok.exfs, ok.funs, ok.frf⟩
section
variable {X : Cx} {pins : List (Addr × Obj)} {σ : St} {H : Hp} {s : Shared} {E : Value → Shared → Prop}
theorem Inv.wish (I : Inv X pins σ H s) (E : Value → Shared → Prop) : Inv (X.wish E) pins σ H s := ⟨I.ok.wish E, I.os, I.bare, I.base, I.loc, I.cell, I.free, I.freeC, I.pin, I.hok, I.len⟩
theorem Inv.unwish (I : Inv (X.wish E) pins σ H s) : Inv X pins σ H s := ⟨I.ok.unwish, I.os, I.bare, I.base, I.loc, I.cell, I.free, I.freeC, I.pin, I.hok, I.len⟩
theorem SP.unwish {D : Ends} {f : Flow} {s' : Shared} (h : SP (X.wish E) pins D f s') : SP X pins D f s' := by
  cases f with
  | next => obtain ⟨σ', H', I, q⟩ := h; exact ⟨σ', H', I.unwish, q⟩
  | brk => obtain ⟨σ', H', I, q⟩ := h; exact ⟨σ', H', I.unwish, q⟩
  | cont => obtain ⟨σ', H', I, q⟩ := h; exact ⟨σ', H', I.unwish, q⟩
  | ret u => obtain ⟨v, σ', H', I, r, q⟩ := h; exact ⟨v, σ', H', I.unwish, r, q⟩
theorem PE.nox {e : Expr} {t : TE} (h : PE X.nox e t) : PE X e t := fun pins s σ H Q I hw =>
  wpAny_mono (h pins s σ H Q (I.wish _) hw) (fun _ _ ⟨v, H', I', r, q⟩ => ⟨v, H', I'.unwish, r, q⟩) fun _ _ z => False.elim z
theorem PT.nox {e : Expr} {t : TT} (h : PT X.nox e t) : PT X e t := fun pins s σ H Q I hw =>
  wpAny_mono (h pins s σ H Q (I.wish _) hw) (fun _ _ ⟨H', I', q⟩ => ⟨H', I'.unwish, q⟩) fun _ _ z => False.elim z
theorem PSs.nox {st : List Stmt} {t : TS} (h : PSs X.nox st t) : PSs X st t := fun pins s σ H D I hw =>
  wpAny_mono (h pins s σ H D (I.wish _) hw) (fun _ _ q => q.unwish) fun _ _ z => False.elim z
end
section
variable {X : Cx} {st : Stmt} {rest : List Stmt} {t u : TS} {e : Expr} {te : TE} {pos : Pos}
noncomputable def tNext : TS := fun D σ H => D.nx σ H
noncomputable def tSeq (t u : TS) : TS := fun D σ H => t { D with nx := u D } σ H
theorem pss_nil : PSs X [] tNext := fun _ _ σ H _ I h => wpAny_execs_nil ⟨σ, H, I, h⟩
theorem pss_cons (h1 : PS X st t) (h2 : PSs X rest u) : PSs X (st :: rest) (tSeq t u) := by
  intro pins s σ H D I h
  refine wpAny_execs_cons (thn (h1 pins s σ H { D with nx := u D } I h) fun f s1 q => ?_)
  cases f with
  | next =>
    obtain ⟨σ', H', I', q⟩ := q
    exact h2 pins s1 σ' H' D I' q
  | ret v => exact q
  | brk => exact q
  | cont => exact q
theorem pss_one (h1 : PS X st t) : PSs X [st] t := by
  intro pins s σ H D I h
  refine wpAny_execs_cons (thn (h1 pins s σ H D I h) fun f s1 q => ?_)
  cases f with
  | next => exact wpAny_execs_nil q
  | ret v => exact q
  | brk => exact q
  | cont => exact q
theorem Inv.quiet {pins : List (Addr × Obj)} {σ : St} {H : Hp} {s : Shared} (I : Inv X pins σ H s) : interactive X.env = false := by simp [interactive, I.ok.kind]
noncomputable def tDrop (te : TE) : TS := fun D σ H => te σ H fun _ H1 => D.nx σ H1
theorem ps_expr (he : PE X e te) (hs : swapsWith e none pos.line X.env = pure false := by rfl) : PS X (.Expr e pos) (tDrop te) := by
  intro pins s σ H D I h
  exact wpAny_Expr_any (thn (he pins s σ H _ I h) fun v s1 ⟨x, H1, I1, r1, q1⟩ => ⟨σ, H1, I1, q1⟩) I.quiet hs
noncomputable def tRet (te : TE) : TS := fun D σ H => te σ H D.rt
theorem ps_ret (he : PE X e te) : PS X (.Return (some e) pos) (tRet te) := by
  intro pins s σ H D I h
  exact wpAny_Return_some (thn (he pins s σ H _ I h) fun v s1 ⟨x, H1, I1, r1, q1⟩ => ⟨x, σ, H1, I1, r1, q1⟩)
noncomputable def tRetN : TS := fun D _ H => D.rt .non H
noncomputable def tIfS (c : TT) (t u : TS) : TS := fun D σ H => c σ H fun b H1 => if b = true then t D σ H1 else u D σ H1
theorem ps_if {c : Expr} {a b : List Stmt} {tc : TT} (hc : PT X c tc) (ha : PSs X a t) (hb : PSs X b u) : PS X (.If c a b pos) (tIfS tc t u) := by
  intro pins s σ H D I h
  refine wpAny_If (thn (hc pins s σ H _ I h) fun d s1 ⟨H1, I1, q1⟩ => ?_)
  cases d with
  | true => exact ha pins s1 σ H1 D I1 q1
  | false => exact hb pins s1 σ H1 D I1 q1
end
noncomputable abbrev TG := V → St → Hp → (St → Hp → Prop) → Prop
noncomputable abbrev TGs := List V → St → Hp → (St → Hp → Prop) → Prop
noncomputable def PG (X : Cx) (target : Expr) (t : TG) : Prop :=
  ∀ (pins : List (Addr × Obj)) (s : Shared) (σ : St) (H : Hp) (v : V) (u : Value) (Q : St → Hp → Prop), Inv X pins σ H s → RelV v u → t v σ H Q →
    wpAny (model X.prog X.w) X.A (assign target X.env u) (fun _ s' => ∃ σ' H', Inv X pins σ' H' s' ∧ Q σ' H') X.xe s
noncomputable def PGs (X : Cx) (ts : List Expr) (t : TGs) : Prop :=
  ∀ (pins : List (Addr × Obj)) (s : Shared) (σ : St) (H : Hp) (vs : List V) (us : List Value) (Q : St → Hp → Prop), Inv X pins σ H s → Vals vs us → t vs σ H Q →
    wpAny (model X.prog X.w) X.A (assignInOrder ((assignEach ts X.env).map (·.2)) us) (fun _ s' => ∃ σ' H', Inv X pins σ' H' s' ∧ Q σ' H') X.xe s
noncomputable abbrev TSet := V → V → V → Hp → (Hp → Prop) → Prop
noncomputable def PSet (X : Cx) (t : TSet) : Prop :=
  ∀ (pins : List (Addr × Obj)) (s : Shared) (σ : St) (H : Hp) (o i v : V) (ov iv u : Value) (Q : Hp → Prop), Inv X pins σ H s → RelV o ov → RelV i iv → RelV v u → t o i v H Q →
    wpAny (model X.prog X.w) X.A (setItem ov iv u) (fun _ s' => ∃ H', Inv X pins σ H' s' ∧ Q H') X.xe s
noncomputable abbrev TIp := V → V → Hp → VK → Prop
noncomputable def PIp (X : Cx) (op : Operator) (t : TIp) : Prop :=
  ∀ (pins : List (Addr × Obj)) (s : Shared) (σ : St) (H : Hp) (x y : V) (v u : Value) (Q : VK), Inv X pins σ H s → RelV x v → RelV y u → t x y H Q →
    wpAny (model X.prog X.w) X.A (inplaceOp op v u) (EP X pins σ Q) X.xe s
section
variable {X : Cx} {pos : Pos}
noncomputable def gName (i : Nat) : TG := fun v σ H Q => Q (σ.set i (some v)) H
theorem pg_name {i : Nat} {x : Str} (hN : X.N.Nodup) (hi : X.N[i]? = some x) (hx : Loc X.env.scope x) (hf : X.fn x = true ∨ X.env.scope.names.lookup x = some .local := by first | exact .inl rfl | exact .inr rfl | assumption) : PG X (.Name x pos) (gName i) := by
  intro pins s σ H v u Q I r h
  exact wpAny_assign_Name (store_ok I hN hi hx r (fun s' I' => ⟨_, H, I', h⟩) hf)
noncomputable def gNil : TGs := fun vs σ H Q => vs = [] ∧ Q σ H
noncomputable def gCons (t : TG) (u : TGs) : TGs := fun vs σ H Q => ∃ v r, vs = v :: r ∧ t v σ H fun σ' H' => u r σ' H' Q
theorem pgs_nil : PGs X [] gNil := by
  intro pins s σ H vs us Q I r h
  obtain ⟨e, h⟩ := h
  subst e
  cases r
  exact assignInOrder_nil ⟨σ, H, I, h⟩
theorem pgs_cons {e : Expr} {es : List Expr} {t : TG} {u : TGs} (h1 : PG X e t) (h2 : PGs X es u)
    (hs : (assignEach (e :: es) X.env).map (·.2) = assign e X.env :: (assignEach es X.env).map (·.2) := by rfl) : PGs X (e :: es) (gCons t u) := by
  intro pins s σ H vs us Q I r h
  obtain ⟨v, vr, e1, h⟩ := h
  subst e1
  cases r with
  | cons r rr =>
    rw [hs]
    refine assignInOrder_cons (thn (h1 pins s σ H _ _ _ I r h) fun _ s1 ⟨σ1, H1, I1, q1⟩ => ?_)
    exact h2 pins s1 σ1 H1 _ _ Q I1 rr q1
noncomputable def gTup (K : PySem.W.Frag) (n : Nat) (t : TGs) : TG := fun v σ H Q => ∃ a xs, v = .ref a ∧ SqT K H a xs ∧ xs.length = n ∧ t xs σ H Q
theorem pg_tup {es : List Expr} {k : Nat} {t : TGs} {n : Nat} (hc : X.calm = true) (h : PGs X es t)
    (hn : (assignEach es X.env).length = n := by rfl) (hst : (assignEach es X.env).findIdx? (·.1) = none := by rfl) : PG X (.Tuple es k pos) (gTup X.K n t) := by
  intro pins s σ H v u Q I r hw
  obtain ⟨a, xs, e1, hq, hl, hw⟩ := hw
  subst e1
  cases r
  obtain ⟨its, rv, ht, hz⟩ := I.tuple hq
  refine assign_Tuple_tuple (I.ok.hd hc) ht (by simp [hn, ← hl, rv.length]) hst fun h' hx => ?_
  have I1 : Inv X pins σ H { s with heap := h' } := I.kept (t' := s.toks) fun b o e => hx b o (Nat.ne_of_lt (Heap.lt_size e)) e
  exact h pins _ σ H xs _ Q I1 (by simpa using rv) hw
noncomputable def gSub (to ti : TE) (t : TSet) : TG := fun v σ H Q => to σ H fun o H1 => ti σ H1 fun i H2 => t o i v H2 fun H3 => Q σ H3
theorem pg_sub {o i : Expr} {to ti : TE} {t : TSet} (ho : PE X o to) (hi : PE X i ti) (hs : PSet X t)
    (ha : ∀ v, assign (.Subscript o i pos) X.env v = (do
      let ov ← holding [v] (eval o X.env)
      let iv ← holding [v, ov] (eval i X.env)
      standAt pos
      holding [v, ov, iv] (setItem ov iv v)
      release [v, ov, iv] []) := by intro _; rfl) : PG X (.Subscript o i pos) (gSub to ti t) := by
  intro pins s σ H v u Q I r h
  rw [ha]
  refine wpAny_bind (wpAny_holding (thn (ho pins s σ H _ I h) fun ov s1 ⟨x, H1, I1, r1, q1⟩ => ?_))
  refine wpAny_bind (wpAny_holding (thn (hi pins s1 σ H1 _ I1 q1) fun iv s2 ⟨y, H2, I2, r2, q2⟩ => ?_))
  refine wpAny_bind (wpAny_standAt (wpAny_bind (wpAny_holding (thn (hs pins s2 σ H2 x y v ov iv u _ I2 r1 r2 r q2) fun _ s3 ⟨H3, I3, q3⟩ => ?_))))
  exact wpAny_release ⟨σ, H3, I3, q3⟩
noncomputable def tAsg (te : TE) (g : TG) : TS := fun D σ H => te σ H fun x H1 => g x σ H1 D.nx
theorem ps_asg {tg e : Expr} {te : TE} {g : TG} (he : PE X e te) (hg : PG X tg g) (hs : swapsWithSole [tg] e pos.line X.env = pure false := by rfl) (hw : swappedStores [tg] e X.env = pure none := by rfl)
    (h1 : (assignEach [tg] X.env).map (·.2) = [assign tg X.env] := by rfl) : PS X (.Assign [tg] e pos) (tAsg te g) := by
  intro pins s σ H D I h
  refine wpAny_Assign_stores (thn (he pins s σ H _ I h) fun v s1 ⟨x, H1, I1, r1, q1⟩ => ?_) hs hw
  rw [h1]
  exact thn (hg pins s1 σ H1 x v _ I1 r1 q1) fun _ s2 q => q
theorem ps_set {i : Nat} {x : Str} {e : Expr} {te : TE} {pos' : Pos} (hN : X.N.Nodup) (hi : X.N[i]? = some x) (hx : Loc X.env.scope x) (he : PE X e te) (hs : swapsWith e (some (.Name x pos')) pos.line X.env = pure false := by rfl) (hf : X.fn x = true ∨ X.env.scope.names.lookup x = some .local := by first | exact .inl rfl | exact .inr rfl | assumption) :
    PS X (.Assign [.Name x pos'] e pos) (tAsg te (gName i)) := by
  intro pins s σ H D I h
  refine wpAny_Assign_Name (thn (he pins s σ H _ I h) fun v s1 ⟨y, H1, I1, r1, q1⟩ => ?_) hs
  exact store_ok I1 hN hi hx r1 (fun s2 I2 => ⟨_, H1, I2, q1⟩) hf
noncomputable def tAug (i : Nat) (te : TE) (ti : TIp) : TS := fun D σ H => ∃ x, σ[i]? = some (some x) ∧ te σ H fun y H1 => ti x y H1 fun z H2 => D.nx (σ.set i (some z)) H2
theorem ps_aug {i : Nat} {x : Str} {e : Expr} {te : TE} {op : Operator} {ti : TIp} {pos' : Pos} (hN : X.N.Nodup) (hi : X.N[i]? = some x) (hx : Loc X.env.scope x) (he : PE X e te) (ho : PIp X op ti) (hf : X.fn x = true ∨ X.env.scope.names.lookup x = some .local := by first | exact .inl rfl | exact .inr rfl | assumption) :
    PS X (.AugAssign (.Name x pos') op e pos) (tAug i te ti) := by
  intro pins s σ H D I h
  obtain ⟨v, e1, h⟩ := h
  obtain ⟨m, hn, hl⟩ := I.loc
  have vis : Vis X.env.scope x := by rcases hx with k | k; exact .inl k; exact .inr (.inl k)
  obtain ⟨u, r, l⟩ := hl i x v hi e1 vis
  refine wpAny_AugAssign_Name ?_
  have go : wpAny (model X.prog X.w) X.A (eval e X.env) (fun w s₂ => wpAny (model X.prog X.w) X.A (inplaceOp op u w) (fun r s₃ => wpAny (model X.prog X.w) X.A (storeName X.env x r) (fun _ => SP X pins D .next) X.xe s₃) X.xe s₂) X.xe s := by
    refine thn (he pins s σ H _ I h) fun w s1 ⟨y, H1, I1, r1, q1⟩ => ?_
    refine thn (ho pins s1 σ H1 v y u w _ I1 r r1 q1) fun z s2 ⟨zv, H2, I2, r2, q2⟩ => ?_
    exact store_ok I2 hN hi hx r2 (fun s3 I3 => ⟨_, H2, I3, q2⟩) hf
  rcases l with ⟨hk, hm⟩ | ⟨hk, c, hc, hcell⟩
  · exact wpAny_loadName_local I.ok.kind hk hn hm go
  · rcases hk with hk | hk
    · exact wpAny_loadName_cell I.ok.kind hk hc hcell go
    · rcases hx with k | k
      · have : X.env.scope.names.lookup x = some .free := hk
        rw [k] at this; cases this
      · have : X.env.scope.names.lookup x = some .free := hk
        rw [k] at this; cases this
noncomputable def ipI (f : Int → Int → Int) : TIp := fun x y H Q => ∃ i j, x = .int i ∧ y = .int j ∧ Q (.int (f i j)) H
theorem ip_add : PIp X .Add (ipI fun i j => i + j) := by
  intro pins s σ H x y v u Q I r1 r2 h
  obtain ⟨i, j, e1, e2, q⟩ := h
  subst e1; subst e2
  obtain ⟨t, rfl⟩ := r1
  obtain ⟨t', rfl⟩ := r2
  exact iadd_int ⟨.int _, H, I.tok _, ⟨_, rfl⟩, q⟩
end
section
variable {X : Cx} {pos : Pos}
end
structure It where
  go : Nat → Hp → Prop
  yld : Nat → Hp → V → Hp → Prop
  stop : Nat → Hp → Prop
noncomputable def FpOk (X : Cx) (pins : List (Addr × Obj)) (H : Hp) (b : Addr) : Prop :=
  H b = none ∧ b ≠ X.env.locals ∧ b ∉ X.fs ∧ (b ∈ X.ex ∨ X.s_0.heap.objs.size ≤ b) ∧ (∀ x c, X.env.cells.lookup x = some c → c ≠ b) ∧ ∀ p ∈ X.pn ++ pins, p.1 ≠ b
theorem Inv.fpOk {X : Cx} {pins : List (Addr × Obj)} {σ : St} {H H' : Hp} {s : Shared} {b : Addr} (I : Inv X pins σ H s) (hb : s.heap.objs.size ≤ b) (hn : H' b = none) : FpOk X pins H' b := by
  refine ⟨hn, Nat.ne_of_gt (Nat.lt_of_lt_of_le I.lt hb), I.nofs hb, .inr (Nat.le_trans I.sz hb), fun x c e z => ?_, fun p hp z => ?_⟩
  · obtain ⟨v, q⟩ := I.cell x c e
    exact absurd (Nat.lt_of_lt_of_le q.lt (by rw [z]; exact hb)) (Nat.lt_irrefl _)
  · exact absurd (Nat.lt_of_lt_of_le (Heap.lt_size (I.pin p hp).1) (by rw [z]; exact hb)) (Nat.lt_irrefl _)
structure Turn (P : Program) (w : World) (K : PySem.W.Frag) (tg : Expr) (J : It) (fp : List Addr) (it : Addr) (tn : Nat → Heap → Prop) : Prop where
  mem : it ∈ fp
  obj : ∀ i h, tn i h → ∀ b ∈ fp, ∃ o, h.get? b = some o ∧ ∀ v, o.data ≠ .cell v
  keep : ∀ i h h', tn i h → (∀ b ∈ fp, ∀ o, h.get? b = some o → h'.get? b = some o) → tn i h'
  item : ∀ (X : Cx), X.prog = P → X.w = w → X.K = K → X.calm = true → ∀ (i : Nat) (pins : List (Addr × Obj)) (s : Shared) (σ : St) (H : Hp) (E : Value → Shared → Prop), Inv X pins σ H s → (∀ b ∈ fp, FpOk X pins H b) → tn i s.heap → J.go i H →
    wpAny (model P w) X.A (pyNext (.ref it)) (fun r s1 => ∃ u, r = some u ∧
      wpAny (model P w) X.A (letOwnedTupleGo tg (.ref it) u) (fun _ s2 => ∃ x H', Inv X pins σ H' s2 ∧ RelV x u ∧ J.yld i H x H' ∧ tn (i + 1) s2.heap ∧ ∀ b ∈ fp, H' b = none) E s1) E s
  done : ∀ (X : Cx), X.prog = P → X.w = w → X.K = K → X.calm = true → ∀ (i : Nat) (pins : List (Addr × Obj)) (s : Shared) (σ : St) (H : Hp) (E : Value → Shared → Prop), Inv X pins σ H s → (∀ b ∈ fp, FpOk X pins H b) → tn i s.heap → J.stop i H →
    wpAny (model P w) X.A (pyNext (.ref it)) (fun r s1 => r = none ∧ Inv X pins σ H s1) E s
  self : ∀ (A : Around) (i : Nat) (s : Shared) (Q : Value → Shared → Prop) (E : Value → Shared → Prop), tn i s.heap → Q (.ref it) s → wpAny (model P w) A (pyIter (.ref it)) Q E s
noncomputable abbrev TI := St → Hp → (It → Hp → Prop) → Prop
noncomputable def PIE (X : Cx) (pins : List (Addr × Obj)) (σ : St) (tg : Expr) (R : It → Hp → Prop) (itv : Value) (s2 : Shared) : Prop :=
  ∃ (it : Addr) (fp : List Addr) (tn : Nat → Heap → Prop) (J : It) (H' : Hp), itv = .ref it ∧ Inv X pins σ H' s2 ∧ Turn X.prog X.w X.K tg J fp it tn ∧ tn 0 s2.heap ∧ (∀ b ∈ fp, FpOk X pins H' b) ∧ R J H'
noncomputable def PI (X : Cx) (tg iter : Expr) (wi : TI) : Prop :=
  ∀ (pins : List (Addr × Obj)) (s : Shared) (σ : St) (H : Hp) (R : It → Hp → Prop), Inv X pins σ H s → wi σ H R →
    wpAny (model X.prog X.w) X.A (eval iter X.env) (fun v s1 => wpAny (model X.prog X.w) X.A (pyIter v) (PIE X pins σ tg R) X.xe s1) X.xe s
theorem go_of {M : Model} {A : Around} {E : Value → Shared → Prop} {s : Shared} {tg : Expr} {it : Addr} {u : Value} {o : Obj} {n : String} {vs : Array Value} {Q : Unit → Shared → Prop} (ho : s.heap.get? it = some o) (hc : o.cls = .type n) (hd : o.data = .fields vs)
    (hn : ["enumerate", "zip", "dict_itemiterator", "dict_reverseitemiterator", "odict_iterator", "itertools.zip_longest", "itertools.pairwise"].contains n = false) (hQ : Q () s) : wpAny M A (letOwnedTupleGo tg (.ref it) u) Q E s := by
  unfold letOwnedTupleGo
  cases tg <;> first
    | exact wpAny_pure hQ
    | (cases u <;> first
        | exact wpAny_pure hQ
        | (refine wpAny_bind (wpAny_load ho ?_)
           rw [hc, hd]
           show wpAny M A (if (["enumerate", "zip", "dict_itemiterator", "dict_reverseitemiterator", "odict_iterator", "itertools.zip_longest", "itertools.pairwise"].contains n && vs[0]? == some (rawInt _)) = true then _ else _) Q E s
           rw [if_neg (by intro h; rw [hn, Bool.false_and] at h; cases h)]
           exact wpAny_pure hQ))
noncomputable def Itl (K : PySem.W.Frag) (a : Addr) : It :=
  ⟨fun i H => ∃ xs x, SqL K H a xs ∧ xs[i]? = some x, fun i H x H' => H' = H ∧ ∀ xs, SqL K H a xs → xs[i]? = some x, fun i H => ∃ xs, SqL K H a xs ∧ xs.length ≤ i⟩
noncomputable def Itt (K : PySem.W.Frag) (a : Addr) : It :=
  ⟨fun i H => ∃ xs x, SqT K H a xs ∧ xs[i]? = some x, fun i H x H' => H' = H ∧ ∀ xs, SqT K H a xs → xs[i]? = some x, fun i H => ∃ xs, SqT K H a xs ∧ xs.length ≤ i⟩
noncomputable def Itr (lo : Int) (n : Nat) : It := ⟨fun i _ => i < n, fun i H x H' => H' = H ∧ x = .int (lo + i), fun i _ => n ≤ i⟩
theorem turn_list {P : Program} {w : World} {K : PySem.W.Frag} {tg : Expr} (a it : Addr) : Turn P w K tg (Itl K a) [it] it (fun i h => h.IsListIter it a i) where
  mem := by simp
  obj := fun i h st b hb => by
    have e : b = it := by simpa using hb
    subst e
    obtain ⟨o, e, c, d⟩ := st
    exact ⟨o, e, fun v z => by rw [d] at z; cases z⟩
  keep := fun i h h' st k => st.at fun o e => k it (by simp) o e
  item := by
    intro X hP hw hK hc i pins s σ H E I hf st hg
    subst hP hw hK
    obtain ⟨xs, x, hq, hx⟩ := hg
    obtain ⟨its, rv, p, hz⟩ := I.list hq
    obtain ⟨u, hu, ru⟩ := rv.get hx
    obtain ⟨f0, f1, f2, f3, f4, f5⟩ := hf it (by simp)
    refine wpAny_pyNext_list_item st p.isList (x := u) (by simpa using hu) fun h' st' sb => ?_
    have I1 : Inv X pins σ H { s with heap := h' } := I.turned (t' := s.toks) (fun b o hb e => (sb.2 b hb).trans e) f0 f1 f3 f4 f5
    obtain ⟨o, e, c, d⟩ := id st'
    exact ⟨u, rfl, go_of (s := { s with heap := h' }) e c d (by decide) ⟨x, H, I1, ru, ⟨rfl, fun ys hy => by rw [I.list_inj hy hq]; exact hx⟩, st', fun b hb => (hf b hb).1⟩⟩
  done := by
    intro X hP hw hK hc i pins s σ H E I hf st hg
    subst hP hw hK
    obtain ⟨xs, hq, hx⟩ := hg
    obtain ⟨its, rv, p, hz⟩ := I.list hq
    obtain ⟨f0, f1, f2, f3, f4, f5⟩ := hf it (by simp)
    have hl := rv.length
    exact wpAny_pyNext_list_end (I.ok.hd hc) st p.isList (by simp; omega) fun h' eb => ⟨rfl, I.turned (t' := s.toks) (fun b o hb e => eb b o hb e) f0 f1 f3 f4 f5⟩
  self := fun _ _ _ _ _ st h => wpAny_pyIter_listiter st h
theorem turn_tuple {P : Program} {w : World} {K : PySem.W.Frag} {tg : Expr} (a it : Addr) : Turn P w K tg (Itt K a) [it] it (fun i h => h.IsTupleIter it a i) where
  mem := by simp
  obj := fun i h st b hb => by
    have e : b = it := by simpa using hb
    subst e
    obtain ⟨o, e, c, d⟩ := st
    exact ⟨o, e, fun v z => by rw [d] at z; cases z⟩
  keep := fun i h h' st k => st.at fun o e => k it (by simp) o e
  item := by
    intro X hP hw hK hc i pins s σ H E I hf st hg
    subst hP hw hK
    obtain ⟨xs, x, hq, hx⟩ := hg
    obtain ⟨its, rv, p, hz⟩ := I.tuple hq
    obtain ⟨u, hu, ru⟩ := rv.get hx
    obtain ⟨f0, f1, f2, f3, f4, f5⟩ := hf it (by simp)
    refine wpAny_pyNext_tuple_item st (show s.heap.IsTuple a its.toArray from p) (x := u) (by simpa using hu) fun h' st' sb => ?_
    have I1 : Inv X pins σ H { s with heap := h' } := I.turned (t' := s.toks) (fun b o hb e => (sb.2 b hb).trans e) f0 f1 f3 f4 f5
    obtain ⟨o, e, c, d⟩ := id st'
    exact ⟨u, rfl, go_of (s := { s with heap := h' }) e c d (by decide) ⟨x, H, I1, ru, ⟨rfl, fun ys hy => by rw [I.tuple_inj hy hq]; exact hx⟩, st', fun b hb => (hf b hb).1⟩⟩
  done := by
    intro X hP hw hK hc i pins s σ H E I hf st hg
    subst hP hw hK
    obtain ⟨xs, hq, hx⟩ := hg
    obtain ⟨its, rv, p, hz⟩ := I.tuple hq
    obtain ⟨f0, f1, f2, f3, f4, f5⟩ := hf it (by simp)
    have hl := rv.length
    exact wpAny_pyNext_tuple_end (I.ok.hd hc) st (show s.heap.IsTuple a its.toArray from p) (by simp; omega) fun h' eb => ⟨rfl, I.turned (t' := s.toks) (fun b o hb e => eb b o hb e) f0 f1 f3 f4 f5⟩
  self := fun _ _ _ _ _ st h => wpAny_pyIter_tupleiter st h
end L2
namespace L2
open PySem PySem.Spec PyProof.Rows
section
variable {X : Cx} {tg : Expr}
noncomputable def iList (K : PySem.W.Frag) (tl : TE) : TI := fun σ H R => tl σ H fun x H1 => ∃ a, x = .ref a ∧ (∃ xs, SqL K H1 a xs) ∧ R (Itl K a) H1
noncomputable def iTup (K : PySem.W.Frag) (tl : TE) : TI := fun σ H R => tl σ H fun x H1 => ∃ a, x = .ref a ∧ (∃ xs, SqT K H1 a xs) ∧ R (Itt K a) H1
theorem pi_list {l : Expr} {tl : TE} (hl : PE X l tl) : PI X tg l (iList X.K tl) := by
  intro pins s σ H R I h
  refine thn (hl pins s σ H _ I h) fun v s1 ⟨x, H1, I1, r1, q1⟩ => ?_
  obtain ⟨a, e, ⟨xs, hq⟩, q⟩ := q1
  subst e
  cases r1
  obtain ⟨its, rv, p, hz⟩ := I1.list hq
  refine wpAny_pyIter_list p.isList ?_
  refine ⟨s1.heap.objs.size, [s1.heap.objs.size], _, _, H1, rfl, I1.kept (t' := s1.toks) fun b o e => Heap.get?_push_of_some _ e, turn_list a _, ⟨_, Heap.get?_push_size _ rfl, rfl, rfl⟩, fun b hb => ?_, q⟩
  have e : b = s1.heap.objs.size := by simpa using hb
  subst e
  exact I1.fpOk (Nat.le_refl _) (I1.hok.fresh (Nat.le_refl _))
theorem pi_tup {l : Expr} {tl : TE} (hl : PE X l tl) : PI X tg l (iTup X.K tl) := by
  intro pins s σ H R I h
  refine thn (hl pins s σ H _ I h) fun v s1 ⟨x, H1, I1, r1, q1⟩ => ?_
  obtain ⟨a, e, ⟨xs, hq⟩, q⟩ := q1
  subst e
  cases r1
  obtain ⟨its, rv, p, hz⟩ := I1.tuple hq
  refine wpAny_pyIter_tuple (show s1.heap.IsTuple a its.toArray from p) ?_
  refine ⟨s1.heap.objs.size, [s1.heap.objs.size], _, _, H1, rfl, I1.kept (t' := s1.toks) fun b o e => Heap.get?_push_of_some _ e, turn_tuple a _, ⟨_, Heap.get?_push_size _ rfl, rfl, rfl⟩, fun b hb => ?_, q⟩
  have e : b = s1.heap.objs.size := by simpa using hb
  subst e
  exact I1.fpOk (Nat.le_refl _) (I1.hok.fresh (Nat.le_refl _))
noncomputable def iRng1 (ta : TA) : TI := fun σ H R => ta σ H fun vs H1 => ∃ j : Int, vs = [.int j] ∧ -(2 ^ 62) ≤ j ∧ j < 2 ^ 62 ∧ R (Itr 0 j.toNat) H1
noncomputable def iRng2 (ta : TA) : TI := fun σ H R => ta σ H fun vs H1 => ∃ i j : Int, vs = [.int i, .int j] ∧ (-(2 ^ 62) ≤ i ∧ i < 2 ^ 62 ∧ -(2 ^ 62) ≤ j ∧ j < 2 ^ 62) ∧ R (Itr i (j - i).toNat) H1
noncomputable def tFor (wi : TI) (g : TG) (tb : TS) : TS := fun D σ H => wi σ H fun J H1 => ∃ W : Nat → Nat → St → Hp → Prop, (∃ m, W 0 m σ H1) ∧ ∀ i m σ H, W i m σ H →
  (J.stop i H ∧ D.nx σ H) ∨ (J.go i H ∧ ∃ N : St → Hp → Prop, (∀ σ' H', N σ' H' → ∃ m', m' < m ∧ W (i + 1) m' σ' H') ∧ ∀ x H', J.yld i H x H' → g x σ H' fun σ2 H2 => tb { D with nx := N, ct := N, bk := D.nx } σ2 H2)
noncomputable def pinsAt (fp : List Addr) (h : Heap) : List (Addr × Obj) := fp.filterMap fun b => (h.get? b).map fun o => (b, o)
theorem mem_pinsAt {fp : List Addr} {h : Heap} {b : Addr} {o : Obj} (hb : b ∈ fp) (e : h.get? b = some o) : (b, o) ∈ pinsAt fp h := List.mem_filterMap.mpr ⟨b, hb, by rw [e]; rfl⟩
theorem of_pinsAt {fp : List Addr} {h : Heap} {p : Addr × Obj} (hp : p ∈ pinsAt fp h) : p.1 ∈ fp ∧ h.get? p.1 = some p.2 := by
  obtain ⟨b, hb, e⟩ := List.mem_filterMap.mp hp
  cases q : h.get? b with
  | none => rw [q] at e; cases e
  | some o =>
    rw [q] at e
    have e' : (b, o) = p := Option.some.inj e
    subst e'
    exact ⟨hb, q⟩
theorem Inv.pinned {pins : List (Addr × Obj)} {σ : St} {H : Hp} {s : Shared} {fp : List Addr} (I : Inv X pins σ H s) (hf : ∀ b ∈ fp, FpOk X pins H b) (ho : ∀ b ∈ fp, ∃ o, s.heap.get? b = some o ∧ ∀ v, o.data ≠ .cell v) : Inv X (pins ++ pinsAt fp s.heap) σ H s :=
  I.pins_of fun p hp => (List.mem_append.mp hp).elim (fun z => I.pin p (List.mem_append_right _ z)) fun z => by
    obtain ⟨hb, e⟩ := of_pinsAt z
    obtain ⟨f0, f1, f2, _⟩ := hf p.1 hb
    obtain ⟨o, e', d⟩ := ho p.1 hb
    rw [e] at e'; cases e'
    exact ⟨e, f0, f1, f2, d⟩
theorem Inv.unpinned {pins pl : List (Addr × Obj)} {σ : St} {H : Hp} {s : Shared} (I : Inv X (pins ++ pl) σ H s) : Inv X pins σ H s := I.pins_of fun p hp => I.pin p (List.mem_append_right _ (List.mem_append_left _ hp))
theorem ps_for {iter : Expr} {body : List Stmt} {wi : TI} {g : TG} {tb : TS} {pos : Pos} (hp : PassesOwn (model X.prog X.w) X.A X.env X.xe) (hc : X.calm = true) (hi : PI X tg iter wi) (hg : PG X tg g) (hb : PSs X body tb)
    (hs : ∀ x, foldedSetIterable iter X.env x = pure x := by intro _; rfl) : PS X (.For tg iter body [] pos) (tFor wi g tb) := by
  intro pins s σ H D I h
  refine wpAny_For (thn (hi pins s σ H _ I h) fun v s1 h1 => thn h1 fun itv s2 h2 => ?_) hs
  obtain ⟨it, fp, tn, J, H2, e, I2, T, st2, f2, W, ⟨m0, w0⟩, turn⟩ := h2
  subst e
  -- what stays true of the iterator's objects through the loop
  have stat : ∀ {H' : Hp}, (∀ b ∈ fp, H' b = none) → ∀ b ∈ fp, FpOk X pins H' b := fun hn b hb => ⟨hn b hb, (f2 b hb).2⟩
  refine codeAny_forLoop_any (fun n s' => ∃ i σ' H', Inv X pins σ' H' s' ∧ tn i s'.heap ∧ (∀ b ∈ fp, H' b = none) ∧ W i n σ' H') ?_ m0 ⟨0, σ, H2, I2, st2, fun b hb => (f2 b hb).1, w0⟩
  rintro n s3 ⟨i, σ3, H3, I3, st3, fr3, w3⟩
  rcases turn i n σ3 H3 w3 with ⟨stop, qn⟩ | ⟨go, N, hN, step⟩
  · refine wpAny_passesOwn hp (thn (T.done X rfl rfl rfl hc i pins s3 σ3 H3 X.xe I3 (stat fr3) st3 stop) fun r s4 ⟨hr, I4⟩ => ?_)
    subst hr
    exact wpAny_execs_nil ⟨σ3, H3, I4, qn⟩
  · refine wpAny_passesOwn hp (thn (T.item X rfl rfl rfl hc i pins s3 σ3 H3 X.xe I3 (stat fr3) st3 go) fun r s4 ⟨u, hr, h4⟩ => ?_)
    subst hr
    refine wpAny_passesOwn hp (thn h4 fun _ s5 ⟨x, H5, I5, r5, y5, st5, fr5⟩ => ?_)
    have I5' := I5.pinned (stat fr5) (T.obj _ _ st5)
    refine wpAny_passesOwn hp (thn (hg _ s5 σ3 H5 x u _ I5' r5 (step x H5 y5)) fun _ s6 ⟨σ6, H6, I6, q6⟩ => ?_)
    refine wpAny_passesOwn hp (thn (hb _ s6 σ6 H6 _ I6 q6) fun f s7 q7 => ?_)
    have again : ∀ {σ7 : St} {H7 : Hp}, Inv X (pins ++ pinsAt fp s5.heap) σ7 H7 s7 → N σ7 H7 → ∃ m, m < n ∧ ∃ i σ' H', Inv X pins σ' H' s7 ∧ tn i s7.heap ∧ (∀ b ∈ fp, H' b = none) ∧ W i m σ' H' := fun {σ7 H7} I7 n7 => by
      obtain ⟨m', hm, w7⟩ := hN σ7 H7 n7
      refine ⟨m', hm, i + 1, σ7, H7, I7.unpinned, T.keep _ _ _ st5 fun b hb o e => (I7.pin (b, o) (List.mem_append_right _ (List.mem_append_right _ (mem_pinsAt hb e)))).1, fun b hb => ?_, w7⟩
      obtain ⟨o, e, d⟩ := T.obj _ _ st5 b hb
      exact (I7.pin (b, o) (List.mem_append_right _ (List.mem_append_right _ (mem_pinsAt hb e)))).2.1
    cases f with
    | next => obtain ⟨σ7, H7, I7, n7⟩ := q7; exact again I7 n7
    | cont => obtain ⟨σ7, H7, I7, n7⟩ := q7; exact again I7 n7
    | brk => obtain ⟨σ7, H7, I7, q7⟩ := q7; exact ⟨σ7, H7, I7.unpinned, q7⟩
    | ret v => obtain ⟨x7, σ7, H7, I7, r7, q7⟩ := q7; exact ⟨x7, σ7, H7, I7.unpinned, r7, q7⟩
end
theorem for_list {K : PySem.W.Frag} {a : Addr} {xs : List V} {g : TG} {tb : TS} {D : Ends} {σ : St} {H : Hp} (Pv : Nat → St → Hp → Prop) (h0 : Pv 0 σ H) (hl : ∀ i σ H, i ≤ xs.length → Pv i σ H → SqL K H a xs)
    (hs : ∀ i x σ H, xs[i]? = some x → Pv i σ H → g x σ H fun σ2 H2 => tb { D with nx := Pv (i + 1), ct := Pv (i + 1), bk := D.nx } σ2 H2) (hd : ∀ σ H, Pv xs.length σ H → D.nx σ H) :
    ∃ W : Nat → Nat → St → Hp → Prop, (∃ m, W 0 m σ H) ∧ ∀ i m σ H, W i m σ H →
      ((Itl K a).stop i H ∧ D.nx σ H) ∨ ((Itl K a).go i H ∧ ∃ N : St → Hp → Prop, (∀ σ' H', N σ' H' → ∃ m', m' < m ∧ W (i + 1) m' σ' H') ∧ ∀ x H', (Itl K a).yld i H x H' → g x σ H' fun σ2 H2 => tb { D with nx := N, ct := N, bk := D.nx } σ2 H2) := by
  refine ⟨fun i m σ H => m = xs.length - i ∧ i ≤ xs.length ∧ Pv i σ H, ⟨xs.length, by simp, Nat.zero_le _, h0⟩, ?_⟩
  rintro i m σ H ⟨rfl, hi, p⟩
  have q := hl i σ H hi p
  by_cases hlt : i < xs.length
  · refine .inr ⟨⟨xs, xs[i], q, by simp [hlt]⟩, Pv (i + 1), fun σ' H' p' => ⟨xs.length - (i + 1), by omega, rfl, hlt, p'⟩, fun x H' y => ?_⟩
    obtain ⟨e, y⟩ := y
    subst e
    exact hs i x σ _ (y xs q) p
  · have e : i = xs.length := by omega
    subst e
    exact .inl ⟨⟨xs, q, Nat.le_refl _⟩, hd σ H p⟩
theorem for_tup {K : PySem.W.Frag} {a : Addr} {xs : List V} {g : TG} {tb : TS} {D : Ends} {σ : St} {H : Hp} (Pv : Nat → St → Hp → Prop) (h0 : Pv 0 σ H) (hl : ∀ i σ H, i ≤ xs.length → Pv i σ H → SqT K H a xs)
    (hs : ∀ i x σ H, xs[i]? = some x → Pv i σ H → g x σ H fun σ2 H2 => tb { D with nx := Pv (i + 1), ct := Pv (i + 1), bk := D.nx } σ2 H2) (hd : ∀ σ H, Pv xs.length σ H → D.nx σ H) :
    ∃ W : Nat → Nat → St → Hp → Prop, (∃ m, W 0 m σ H) ∧ ∀ i m σ H, W i m σ H →
      ((Itt K a).stop i H ∧ D.nx σ H) ∨ ((Itt K a).go i H ∧ ∃ N : St → Hp → Prop, (∀ σ' H', N σ' H' → ∃ m', m' < m ∧ W (i + 1) m' σ' H') ∧ ∀ x H', (Itt K a).yld i H x H' → g x σ H' fun σ2 H2 => tb { D with nx := N, ct := N, bk := D.nx } σ2 H2) := by
  refine ⟨fun i m σ H => m = xs.length - i ∧ i ≤ xs.length ∧ Pv i σ H, ⟨xs.length, by simp, Nat.zero_le _, h0⟩, ?_⟩
  rintro i m σ H ⟨rfl, hi, p⟩
  have q := hl i σ H hi p
  by_cases hlt : i < xs.length
  · refine .inr ⟨⟨xs, xs[i], q, by simp [hlt]⟩, Pv (i + 1), fun σ' H' p' => ⟨xs.length - (i + 1), by omega, rfl, hlt, p'⟩, fun x H' y => ?_⟩
    obtain ⟨e, y⟩ := y
    subst e
    exact hs i x σ _ (y xs q) p
  · have e : i = xs.length := by omega
    subst e
    exact .inl ⟨⟨xs, q, Nat.le_refl _⟩, hd σ H p⟩
end L2
namespace L2
open PySem PySem.Spec PyProof.Rows
noncomputable abbrev R2 := V → V → Hp → VK → Prop
noncomputable def OpR (X : Cx) (f : Value → Value → Sem Value) (r : R2) : Prop :=
  ∀ (pins : List (Addr × Obj)) (s : Shared) (σ : St) (H : Hp) (x y : V) (v u : Value) (Q : VK), Inv X pins σ H s → RelV x v → RelV y u → r x y H Q →
    wpAny (model X.prog X.w) X.A (f v u) (EP X pins σ Q) X.xe s
noncomputable def UnR (X : Cx) (f : Value → Sem Value) (r : V → Hp → VK → Prop) : Prop :=
  ∀ (pins : List (Addr × Obj)) (s : Shared) (σ : St) (H : Hp) (x : V) (v : Value) (Q : VK), Inv X pins σ H s → RelV x v → r x H Q →
    wpAny (model X.prog X.w) X.A (f v) (EP X pins σ Q) X.xe s
noncomputable def CallR (X : Cx) (f : Value) (r : List V → Hp → VK → Prop) : Prop :=
  ∀ (pins : List (Addr × Obj)) (s : Shared) (σ : St) (H : Hp) (xs : List V) (us : List Value) (Q : VK), Inv X pins σ H s → Vals xs us → r xs H Q →
    wpAny (model X.prog X.w) X.A (call f us) (EP X pins σ Q) X.xe s
noncomputable def TruR (X : Cx) (r : V → Hp → (Bool → Hp → Prop) → Prop) : Prop :=
  ∀ (pins : List (Addr × Obj)) (s : Shared) (σ : St) (H : Hp) (x : V) (v : Value) (Q : Bool → Hp → Prop), Inv X pins σ H s → RelV x v → r x H Q →
    wpAny (model X.prog X.w) X.A (truthy v) (TP X pins σ Q) X.xe s
noncomputable def tOp (r : R2) (ta tb : TE) : TE := fun σ H Q => ta σ H fun x H1 => tb σ H1 fun y H2 => r x y H2 Q
noncomputable def tUn (r : V → Hp → VK → Prop) (ta : TE) : TE := fun σ H Q => ta σ H fun x H1 => r x H1 Q
noncomputable def rI (C : Int → Int → Prop) (g : Int → Int → V) : R2 := fun x y H Q => ∃ i j, x = .int i ∧ y = .int j ∧ C i j ∧ Q (g i j) H
noncomputable def rI0 (g : Int → Int → V) : R2 := fun x y H Q => ∃ i j, x = .int i ∧ y = .int j ∧ Q (g i j) H
noncomputable def rU (g : Int → V) : V → Hp → VK → Prop := fun x H Q => ∃ i, x = .int i ∧ Q (g i) H
section
variable {X : Cx} {a b c : Expr} {ta tb tc : TE} {pos : Pos}
theorem binT (ha : PE X a ta) (hb : PE X b tb) {pins : List (Addr × Obj)} {s : Shared} {σ : St} {H : Hp} {R : V → V → Hp → Prop} (I : Inv X pins σ H s)
    (h : ta σ H fun x H1 => tb σ H1 fun y H2 => R x y H2) {Q : Value → Shared → Prop} {f : Value → Value → Sem Value}
    (hf : ∀ v u s2 x y H2, Inv X pins σ H2 s2 → RelV x v → RelV y u → R x y H2 → wpAny (model X.prog X.w) X.A (f v u) Q X.xe s2) :
    wpAny (model X.prog X.w) X.A (eval a X.env) (fun v s₁ => wpAny (model X.prog X.w) X.A (eval b X.env) (fun u s₂ => wpAny (model X.prog X.w) X.A (f v u) Q X.xe s₂) X.xe s₁) X.xe s := by
  refine thn (ha pins s σ H _ I h) fun v s1 ⟨x, H1, I1, r1, q1⟩ => ?_
  refine thn (hb pins s1 σ H1 _ I1 q1) fun u s2 ⟨y, H2, I2, r2, q2⟩ => ?_
  exact hf v u s2 x y H2 I2 r1 r2 q2
theorem pe_op {op : Operator} {r : R2} (ho : OpR X (binaryOp op) r) (ha : PE X a ta) (hb : PE X b tb) : PE X (.BinOp a op b pos) (tOp r ta tb) := by
  intro pins s σ H Q I h
  exact wpAny_BinOp (binT ha hb I h fun v u s2 x y H2 I2 rx ry q => ho pins s2 σ H2 x y v u Q I2 rx ry q)
theorem pe_un {op : UnaryOp} {r : V → Hp → VK → Prop} (ho : UnR X (unaryOp op) r) (ha : PE X a ta) : PE X (.UnaryOp op a pos) (tUn r ta) := by
  intro pins s σ H Q I h
  exact UnaryOp_ (thn (ha pins s σ H _ I h) fun v s1 ⟨x, H1, I1, r1, q1⟩ => ho pins s1 σ H1 x v Q I1 r1 q1)
theorem opI {f : Value → Value → Sem Value} {C : Int → Int → Prop} {g : Int → Int → Int}
    (rule : ∀ (i j : Int) (t u : Tok) (s : Shared) (Q : Value → Shared → Prop) (E : Value → Shared → Prop), C i j → Q (.int (g i j) s.toks) { s with toks := s.toks + 1 } → wpAny (model X.prog X.w) X.A (f (.int i t) (.int j u)) Q E s) :
    OpR X f (rI C fun i j => .int (g i j)) := by
  intro pins s σ H x y v u Q I rx ry h
  obtain ⟨i, j, rfl, rfl, hc, q⟩ := h
  obtain ⟨t, rfl⟩ := rx
  obtain ⟨t', rfl⟩ := ry
  exact rule i j t t' s _ _ hc ⟨.int (g i j), H, I.tok _, ⟨_, rfl⟩, q⟩
theorem opI0 {f : Value → Value → Sem Value} {g : Int → Int → Int}
    (rule : ∀ (i j : Int) (t u : Tok) (s : Shared) (Q : Value → Shared → Prop) (E : Value → Shared → Prop), Q (.int (g i j) s.toks) { s with toks := s.toks + 1 } → wpAny (model X.prog X.w) X.A (f (.int i t) (.int j u)) Q E s) :
    OpR X f (rI0 fun i j => .int (g i j)) := by
  intro pins s σ H x y v u Q I rx ry h
  obtain ⟨i, j, rfl, rfl, q⟩ := h
  obtain ⟨t, rfl⟩ := rx
  obtain ⟨t', rfl⟩ := ry
  exact rule i j t t' s _ _ ⟨.int (g i j), H, I.tok _, ⟨_, rfl⟩, q⟩
theorem opB0 {f : Value → Value → Sem Value} {g : Int → Int → Bool}
    (rule : ∀ (i j : Int) (t u : Tok) (s : Shared) (Q : Value → Shared → Prop) (E : Value → Shared → Prop), Q (.bool (g i j)) s → wpAny (model X.prog X.w) X.A (f (.int i t) (.int j u)) Q E s) :
    OpR X f (rI0 fun i j => .bl (g i j)) := by
  intro pins s σ H x y v u Q I rx ry h
  obtain ⟨i, j, rfl, rfl, q⟩ := h
  obtain ⟨t, rfl⟩ := rx
  obtain ⟨t', rfl⟩ := ry
  exact rule i j t t' s _ _ ⟨.bl (g i j), H, I, rfl, q⟩
noncomputable def CMul (i j : Int) : Prop := (-(2 ^ 64) < i ∧ i < 2 ^ 64) ∨ (-(2 ^ 64) < j ∧ j < 2 ^ 64)
theorem CMul.ok {i j : Int} (h : CMul i j) : IntMulOk i j := by
  rcases h with ⟨h1, h2⟩ | ⟨h1, h2⟩
  · exact .of_left (intBits_le_64 h1 h2)
  · exact .of_right (intBits_le_64 h1 h2)
theorem op_add : OpR X (binaryOp .Add) (rI0 fun i j => .int (i + j)) := opI0 fun _ _ _ _ _ _ _ q => add_int q
theorem op_sub : OpR X (binaryOp .Sub) (rI0 fun i j => .int (i - j)) := opI0 fun _ _ _ _ _ _ _ q => sub_int q
theorem op_mod : OpR X (binaryOp .Mod) (rI (fun _ j => 0 < j) fun i j => .int (i % j)) := opI fun i j _ _ _ _ _ hc q => by
  have h1 : (0 : Int) < j := hc
  exact mod_int' (by omega) (by rw [Int.fmod_eq_emod_of_nonneg i (by omega)]; exact q)
theorem unI {f : Value → Sem Value} {g : Int → Int}
    (rule : ∀ (i : Int) (t : Tok) (s : Shared) (Q : Value → Shared → Prop) (E : Value → Shared → Prop), Q (.int (g i) s.toks) { s with toks := s.toks + 1 } → wpAny (model X.prog X.w) X.A (f (.int i t)) Q E s) :
    UnR X f (rU fun i => .int (g i)) := by
  intro pins s σ H x v Q I rx h
  obtain ⟨i, rfl, q⟩ := h
  obtain ⟨t, rfl⟩ := rx
  exact rule i t s _ _ ⟨.int (g i), H, I.tok _, ⟨_, rfl⟩, q⟩
theorem un_neg : UnR X (unaryOp .USub) (rU fun i => .int (-i)) := unI fun _ _ _ _ _ q => neg_int q
end
noncomputable def scal : V → V → Bool
  | .non, .non => true | .non, .int _ => true | .int _, .non => true | .non, .bl _ => true | .bl _, .non => true | .non, .str _ => true | .str _, .non => true
  | .int _, .int _ => true | .bl _, .bl _ => true | .str _, .str _ => true | .byt _, .byt _ => true
  | .int _, .str _ => true | .str _, .int _ => true | .bl _, .str _ => true | .str _, .bl _ => true
  | _, _ => false
noncomputable def rEq : R2 := fun x y H Q => scal x y = true ∧ Q (.bl (decide (x = y))) H
noncomputable def rNe : R2 := fun x y H Q => scal x y = true ∧ Q (.bl (!decide (x = y))) H
theorem dec_int {i j : Int} : decide (V.int i = V.int j) = (i == j) := by
  rw [Bool.eq_iff_iff]
  simp
theorem dec_bl {i j : Bool} : decide (V.bl i = V.bl j) = (i == j) := by
  rw [Bool.eq_iff_iff]
  simp
theorem dec_str {i j : Str} : decide (V.str i = V.str j) = (i == j) := by
  rw [Bool.eq_iff_iff]
  simp
theorem dec_byt {i j : Array UInt8} : decide (V.byt i = V.byt j) = (i.toList == j.toList) := by
  rw [Bool.eq_iff_iff]
  cases i
  cases j
  simp
section
variable {X : Cx} {a b c : Expr} {ta tb tc : TE} {pos : Pos}
theorem fin_bl {pins : List (Addr × Obj)} {σ : St} {H : Hp} {s : Shared} {Q : VK} {k k' : Bool} (I : Inv X pins σ H s) (q : Q (.bl k) H) (e : k = k') : EP X pins σ Q (.bool k') s := by
  subst e
  exact ⟨.bl k, H, I, rfl, q⟩
theorem op_eq : OpR X (compareOp .Eq) rEq := by
  intro pins s σ H x y v u Q I rx ry h
  obtain ⟨hs, q⟩ := h
  cases x with
  | non =>
    cases rx
    cases y with
    | non => cases ry; exact PySem.EqNone.eq_none_none (fin_bl I q (by simp))
    | bl j => cases ry; exact PySem.EqNone.eq_none_bool (fin_bl I q (by simp))
    | int j => obtain ⟨t', rfl⟩ := ry; exact PySem.EqNone.eq_none_int (fin_bl I q (by simp))
    | str j => obtain ⟨t', rfl⟩ := ry; exact PySem.EqNone.eq_none_str (fin_bl I q (by simp))
    | _ => exact absurd (show false = true from hs) Bool.false_ne_true
  | bl i =>
    cases rx
    cases y with
    | non => cases ry; exact PySem.EqNone.eq_bool_none (fin_bl I q (by simp))
    | bl j => cases ry; exact eq_bool (fin_bl I q dec_bl)
    | str j => obtain ⟨t', rfl⟩ := ry; exact PySem.EqMixed.eq_bool_str (fin_bl I q (by simp))
    | _ => exact absurd (show false = true from hs) Bool.false_ne_true
  | int i =>
    obtain ⟨t, rfl⟩ := rx
    cases y with
    | non => cases ry; exact PySem.EqNone.eq_int_none (fin_bl I q (by simp))
    | int j => obtain ⟨t', rfl⟩ := ry; exact eq_int (fin_bl I q dec_int)
    | str j => obtain ⟨t', rfl⟩ := ry; exact PySem.EqMixed.eq_int_str (fin_bl I q (by simp))
    | _ => exact absurd (show false = true from hs) Bool.false_ne_true
  | str i =>
    obtain ⟨t, rfl⟩ := rx
    cases y with
    | non => cases ry; exact PySem.EqNone.eq_str_none (fin_bl I q (by simp))
    | bl j => cases ry; exact PySem.EqMixed.eq_str_bool (fin_bl I q (by simp))
    | int j => obtain ⟨t', rfl⟩ := ry; exact PySem.EqMixed.eq_str_int (fin_bl I q (by simp))
    | str j => obtain ⟨t', rfl⟩ := ry; exact eq_str (fin_bl I q dec_str)
    | _ => exact absurd (show false = true from hs) Bool.false_ne_true
  | byt i =>
    obtain ⟨t, rfl⟩ := rx
    cases y with
    | byt j => obtain ⟨t', rfl⟩ := ry; exact PySem.W.eq_bytes (fin_bl I q dec_byt)
    | _ => exact absurd (show false = true from hs) Bool.false_ne_true
  | _ => cases y <;> exact absurd (show false = true from hs) Bool.false_ne_true
theorem op_ne : OpR X (compareOp .NotEq) rNe := by
  intro pins s σ H x y v u Q I rx ry h
  obtain ⟨hs, q⟩ := h
  cases x with
  | non =>
    cases rx
    cases y with
    | non => cases ry; exact PySem.EqNone.ne_none_none (fin_bl I q (by simp))
    | bl j => cases ry; exact PySem.EqNone.ne_none_bool (fin_bl I q (by simp))
    | int j => obtain ⟨t', rfl⟩ := ry; exact PySem.EqNone.ne_none_int (fin_bl I q (by simp))
    | str j => obtain ⟨t', rfl⟩ := ry; exact PySem.EqNone.ne_none_str (fin_bl I q (by simp))
    | _ => exact absurd (show false = true from hs) Bool.false_ne_true
  | bl i =>
    cases rx
    cases y with
    | non => cases ry; exact PySem.EqNone.ne_bool_none (fin_bl I q (by simp))
    | bl j => cases ry; exact ne_bool (fin_bl I q (congrArg not dec_bl))
    | str j => obtain ⟨t', rfl⟩ := ry; exact PySem.EqMixed.ne_bool_str (fin_bl I q (by simp))
    | _ => exact absurd (show false = true from hs) Bool.false_ne_true
  | int i =>
    obtain ⟨t, rfl⟩ := rx
    cases y with
    | non => cases ry; exact PySem.EqNone.ne_int_none (fin_bl I q (by simp))
    | int j => obtain ⟨t', rfl⟩ := ry; exact ne_int (fin_bl I q (congrArg not dec_int))
    | str j => obtain ⟨t', rfl⟩ := ry; exact PySem.EqMixed.ne_int_str (fin_bl I q (by simp))
    | _ => exact absurd (show false = true from hs) Bool.false_ne_true
  | str i =>
    obtain ⟨t, rfl⟩ := rx
    cases y with
    | non => cases ry; exact PySem.EqNone.ne_str_none (fin_bl I q (by simp))
    | bl j => cases ry; exact PySem.EqMixed.ne_str_bool (fin_bl I q (by simp))
    | int j => obtain ⟨t', rfl⟩ := ry; exact PySem.EqMixed.ne_str_int (fin_bl I q (by simp))
    | str j => obtain ⟨t', rfl⟩ := ry; exact ne_str (fin_bl I q (congrArg not dec_str))
    | _ => exact absurd (show false = true from hs) Bool.false_ne_true
  | byt i =>
    obtain ⟨t, rfl⟩ := rx
    cases y with
    | byt j => obtain ⟨t', rfl⟩ := ry; exact PySem.W.ne_bytes (fin_bl I q (congrArg not dec_byt))
    | _ => exact absurd (show false = true from hs) Bool.false_ne_true
  | _ => cases y <;> exact absurd (show false = true from hs) Bool.false_ne_true
theorem op_lt : OpR X (compareOp .Lt) (rI0 fun i j => .bl (decide (i < j))) := opB0 fun _ _ _ _ _ _ _ q => lt_int q
theorem op_le : OpR X (compareOp .LtE) (rI0 fun i j => .bl (decide (i ≤ j))) := opB0 fun _ _ _ _ _ _ _ q => le_int q
theorem op_gt : OpR X (compareOp .Gt) (rI0 fun i j => .bl (decide (j < i))) := opB0 fun _ _ _ _ _ _ _ q => gt_int q
theorem op_ge : OpR X (compareOp .GtE) (rI0 fun i j => .bl (decide (j ≤ i))) := opB0 fun _ _ _ _ _ _ _ q => ge_int q
theorem nomark (b : Expr) {op : CmpOp} (h : op ≠ .In := by decide) (h2 : op ≠ .NotIn := by decide) : behindInMarks op b = false := by
  have e1 : (op == CmpOp.In) = false := by cases op <;> first | rfl | exact absurd rfl h
  have e2 : (op == CmpOp.NotIn) = false := by cases op <;> first | rfl | exact absurd rfl h2
  cases b <;> simp [behindInMarks, e1, e2]
theorem pe_cmpR {op : CmpOp} {r : R2} (ho : OpR X (compareOp op) r) (ha : PE X a ta) (hb : PE X b tb) (hm : behindInMarks op b = false) : PE X (.Compare a [op] [b] pos) (tOp r ta tb) := by
  intro pins s σ H Q I h
  exact wpAny_Compare1 (binT ha hb I h fun v u s2 x y H2 I2 rx ry q => ho pins s2 σ H2 x y v u Q I2 rx ry q) hm
noncomputable def tTest (t : TE) : TT := fun σ H Q => t σ H fun x H' => ∃ k, x = .bl k ∧ Q k H'
theorem pt_cmpR {op : CmpOp} {r : R2} (ho : OpR X (compareOp op) r) (ha : PE X a ta) (hb : PE X b tb) (hm : behindInMarks op b = false) : PT X (.Compare a [op] [b] pos) (tTest (tOp r ta tb)) := by
  intro pins s σ H Q I h
  refine wpAny_isTrue_Compare1 (thn (ha pins s σ H _ I h) fun v s1 ⟨x, H1, I1, r1, q1⟩ => thn (hb pins s1 σ H1 _ I1 q1) fun u s2 ⟨y, H2, I2, r2, q2⟩ =>
    thn (ho pins s2 σ H2 x y v u _ I2 r1 r2 q2) fun c s3 ⟨z, H3, I3, r3, k, e, q3⟩ => ?_) hm
  subst e
  cases r3
  exact wpAny_truthy_bool ⟨H3, I3, q3⟩
noncomputable def tChain (r r' : R2) (ta tb tc : TE) : TE := fun σ H Q => ta σ H fun x H1 => tb σ H1 fun y H2 => r x y H2 fun z H3 => ∃ k, z = .bl k ∧
  (if k = true then tc σ H3 fun w' H4 => r' y w' H4 Q else Q (.bl false) H3)
theorem pe_chain {op op' : CmpOp} {r r' : R2} (ho : OpR X (compareOp op) r) (ho' : OpR X (compareOp op') r') (ha : PE X a ta) (hb : PE X b tb) (hc : PE X c tc)
    (hm : lastMarks [op, op'] [b, c] = false := by with_unfolding_all rfl) : PE X (.Compare a [op, op'] [b, c] pos) (tChain r r' ta tb tc) := by
  intro pins s σ H Q I h
  refine Compare_chain (thn (ha pins s σ H _ I h) fun v s1 ⟨x, H1, I1, r1, q1⟩ => chain_link (thn (hb pins s1 σ H1 _ I1 q1) fun u s2 ⟨y, H2, I2, r2, q2⟩ =>
    thn (ho pins s2 σ H2 x y v u _ I2 r1 r2 q2) fun d s3 ⟨z, H3, I3, r3, k, e, q3⟩ => ?_)) hm
  subst e
  cases r3
  refine wpAny_truthy_bool ?_
  cases k with
  | false => exact ite_ff ⟨.bl false, H3, I3, rfl, q3⟩
  | true => exact ite_tt (chain_last (thn (hc pins s3 σ H3 _ I3 q3) fun w' s4 ⟨z', H4, I4, r4, q4⟩ => ho' pins s4 σ H4 y z' u w' Q I4 r2 r4 q4))
theorem pt_chain {op op' : CmpOp} {r r' : R2} (ho : OpR X (compareOp op) r) (ho' : OpR X (compareOp op') r') (ha : PE X a ta) (hb : PE X b tb) (hc : PE X c tc)
    (hm : lastMarks [op, op'] [b, c] = false := by with_unfolding_all rfl) : PT X (.Compare a [op, op'] [b, c] pos) (tTest (tChain r r' ta tb tc)) := by
  intro pins s σ H Q I h
  refine isTrue_chain (thn (ha pins s σ H _ I h) fun v s1 ⟨x, H1, I1, r1, q1⟩ => test_link (thn (hb pins s1 σ H1 _ I1 q1) fun u s2 ⟨y, H2, I2, r2, q2⟩ =>
    thn (ho pins s2 σ H2 x y v u _ I2 r1 r2 q2) fun d s3 ⟨z, H3, I3, r3, k, e, q3⟩ => ?_)) hm
  subst e
  cases r3
  refine wpAny_truthy_bool ?_
  cases k with
  | false =>
    obtain ⟨k', e', q'⟩ := q3
    cases e'
    exact ite_ff ⟨H3, I3, q'⟩
  | true =>
    refine ite_tt (test_last (thn (hc pins s3 σ H3 _ I3 q3) fun w' s4 ⟨z', H4, I4, r4, q4⟩ => thn (ho' pins s4 σ H4 y z' u w' _ I4 r2 r4 q4) fun d' s5 ⟨z2, H5, I5, r5, k2, e2, q5⟩ => ?_))
    subst e2
    cases r5
    exact wpAny_truthy_bool ⟨H5, I5, q5⟩
noncomputable def TruV (K : PySem.W.Frag) (x : V) (H : Hp) (k : Bool) : Prop :=
  match x with
  | .non => k = false
  | .bl b => k = b
  | .int i => k = (i != 0)
  | .str y => y.length ≤ sizeLine ∧ k = ((y.length : Int) != 0)
  | .byt y => y.size ≤ sizeLine ∧ k = ((y.size : Int) != 0)
  | .ref p => (∃ xs, SqL K H p xs ∧ k = !xs.isEmpty) ∨ (∃ xs, SqT K H p xs ∧ k = !xs.isEmpty) ∨ ∃ kvs, H p = some (.dK kvs) ∧ k = !kvs.isEmpty
  | _ => False
theorem isEmpty_kv {κ : Type} {kvs : List (κ × V)} {vs : List (κ × Value)} (r : KV kvs vs) : (!vs.isEmpty) = !kvs.isEmpty := by
  cases r <;> rfl
theorem isEmpty_of {xs : List V} {its : List Value} (r : Vals xs its) : (!its.toArray.isEmpty) = !xs.isEmpty := by
  cases r <;> simp
theorem line63 : (sizeLine : Nat) < 2 ^ 63 := by rw [sizeLine_eq]; decide
theorem tru_ok : TruR X (fun x H Q => ∃ k, TruV X.K x H k ∧ Q k H) := by
  intro pins s σ H x v Q I rx h
  obtain ⟨k, e, q⟩ := h
  have hl := line63
  have hs : sizeLine = 16777216 := sizeLine_eq
  cases x with
  | non =>
    cases rx
    have e' : k = false := e
    subst e'
    exact truthy_none ⟨H, I, q⟩
  | bl b =>
    cases rx
    have e' : k = b := e
    subst e'
    exact wpAny_truthy_bool ⟨H, I, q⟩
  | int i =>
    obtain ⟨t, rfl⟩ := rx
    have e' : k = (i != 0) := e
    subst e'
    exact PySem.P.truthy_int ⟨H, I, q⟩
  | str y =>
    obtain ⟨t, rfl⟩ := rx
    obtain ⟨hy, e'⟩ : y.length ≤ sizeLine ∧ k = ((y.length : Int) != 0) := e
    subst e'
    exact PySem.P.truthy_str (by omega) ⟨H, I.tok _, q⟩
  | byt y =>
    obtain ⟨t, rfl⟩ := rx
    obtain ⟨hy, e'⟩ : y.size ≤ sizeLine ∧ k = ((y.size : Int) != 0) := e
    subst e'
    exact PySem.W.truthy_bytes (by omega) ⟨H, I.tok _, q⟩
  | ref p =>
    cases rx
    have e' : (∃ xs, SqL X.K H p xs ∧ k = !xs.isEmpty) ∨ (∃ xs, SqT X.K H p xs ∧ k = !xs.isEmpty) ∨ ∃ kvs, H p = some (.dK kvs) ∧ k = !kvs.isEmpty := e
    rcases e' with ⟨xs, hx, e'⟩ | ⟨xs, hx, e'⟩ | ⟨kvs, hx, e'⟩
    · subst e'
      obtain ⟨its, r, pl, hz⟩ := I.list hx
      have hlen := r.length
      exact wpAny_truthy_list pl.isList (by simp only [List.size_toArray]; omega) ⟨H, I.tok _, by rw [isEmpty_of r]; exact q⟩
    · subst e'
      obtain ⟨its, r, pl, hz⟩ := I.tuple hx
      have hlen := r.length
      exact truthy_tuple pl (by simp only [List.size_toArray]; omega) ⟨H, I.tok _, by rw [isEmpty_of r]; exact q⟩
    · subst e'
      obtain ⟨hz, hS, vs, r, m⟩ : kvs.length ≤ sizeLine ∧ (p == sysModules) = false ∧ ∃ vs, KV kvs vs ∧ s.heap.DictOf (mixKind X.prog X.w) p vs := I.hok p _ hx
      have hlen : kvs.length = vs.length := Paired.length r
      exact wpAny_truthy_dict hS m (by omega) ⟨H, I.tok _, by rw [isEmpty_kv r]; exact q⟩
  | _ => exact (show False from e).elim
theorem pt_truth (ha : PE X a ta) (he : ∀ whole, isTrue a X.env whole = (do let v ← whole; standAt a.pos; holding [v] (truthy v))) :
    PT X a (fun σ H Q => ta σ H fun x H' => ∃ k, TruV X.K x H' k ∧ Q k H') := by
  intro pins s σ H Q I h
  exact isTrue_plain (thn (ha pins s σ H _ I h) fun v s1 ⟨x, H1, I1, r1, q1⟩ => tru_ok pins s1 σ H1 x v Q I1 r1 q1) (he _)
theorem vals1 {x : V} {us : List Value} (r : Vals [x] us) : ∃ u, us = [u] ∧ RelV x u := by
  cases r with
  | cons r1 r2 => cases r2; exact ⟨_, rfl, r1⟩
theorem vals2 {x y : V} {us : List Value} (r : Vals [x, y] us) : ∃ u w', us = [u, w'] ∧ RelV x u ∧ RelV y w' := by
  cases r with
  | cons r1 r2 =>
    cases r2 with
    | cons r3 r4 => cases r4; exact ⟨_, _, rfl, r1, r3⟩
end
end L2
namespace L2
open PySem PySem.Spec PyProof.Rows
structure ObjM (h : Heap) (x dx C : Addr) (mA : Str → Option Value) : Prop where
  obj : h.get? x = some (PySem.W.instObj C dx)
  ns : h.Ns1 dx mA
  ne : dx ≠ x
theorem lookIn_ns {h : Heap} {dx : Addr} {mA : Str → Option Value} (n : h.Ns1 dx mA) : ∃ od, h.get? dx = some od ∧ ∀ name, PySem.W.lookIn name od = some (mA name) := by
  obtain ⟨o, es, ep, ho, hd, hk, _, hm⟩ := n
  refine ⟨o, ho, fun name => ?_⟩
  have e := hm name
  unfold nsFind findBy at e
  rw [← Array.find?_toList] at e
  unfold PySem.W.lookIn
  rw [hd]
  dsimp only
  split
  · rename_i y q
    rw [q] at e
    exact congrArg some e
  · rename_i q
    rw [q] at e
    have a : es.toList.any (·.refKey) = false := by
      rw [List.any_eq_false]
      intro y hy
      obtain ⟨z, t, hkey⟩ := hk y (Array.mem_toList_iff.mp hy)
      simp [DictEntry.refKey, hkey]
    have a' : ¬ es.toList.any (·.refKey) = true := by rw [a]; exact Bool.false_ne_true
    rw [if_neg a']
    exact congrArg some e
theorem ObjM.look {h : Heap} {x dx C : Addr} {mA : Str → Option Value} (I : ObjM h x dx C mA) : ∃ od, PySem.W.InstAt h x (PySem.W.instObj C dx) C (some od) ∧ ∀ name, PySem.W.lookIn name od = some (mA name) :=
  let ⟨od, ho, hl⟩ := lookIn_ns I.ns
  ⟨od, ⟨I.obj, rfl, rfl, ho⟩, hl⟩
section
variable {prog : Program} {w : World} {A : Around} {E : Value → Shared → Prop} {s : Shared} {K : PySem.W.Frag} {x dx C f : Addr} {mA : Str → Option Value} {name : Str} {v : Value}
theorem get_map {expr : Bool} {Q : Value → Shared → Prop} (X : K.In s.heap) (I : ObjM s.heap x dx C mA) (hg : PySem.W.plainGet K C name = true) (hh : PySem.W.hasDictIn K C = true)
    (ha : PySem.W.findIn K (.ref C) name = some none) (hv : mA name = some v) (hv' : PySem.W.handedIn v = true) (h : Q v { s with toks := s.toks + 1 }) :
    wpAny (model prog w) A (getAttr (.ref x) name expr) Q E s := by
  obtain ⟨od, J, hl⟩ := I.look
  exact PySem.W.get_value X J (PySem.W.plainGet_of hg).1 (PySem.W.findObj_own hh ha rfl (by rw [hl, hv])) hv' h
theorem set_map {ns : List Str} {Q : Unit → Shared → Prop} (X : K.In s.heap) (I : ObjM s.heap x dx C mA)
    (hs : PySem.W.findIn K (.ref C) "__setattr__" = some (some (.builtin "object.__setattr__"))) (hp : PySem.W.plainOver K C = true) (ht : PySem.W.takerIn K C name = some none) (hh : PySem.W.hasDictIn K C = true)
    (hw : PySem.Within mA ns) (hsz : ns.length ≤ sizeLine)
    (h : ∀ h', ObjM h' x dx C (fun y => if y = name then some v else mA y) → Heap.SameBut dx s.heap h' → Q () { s with heap := h', toks := s.toks + 2 }) :
    wpAny (model prog w) A (setAttr (.ref x) name v) Q E s := by
  obtain ⟨od, J, hl⟩ := I.look
  refine PySem.W.set_plain X J hs (PySem.W.osa_open (s := { s with toks := s.toks + 1 }) (r := none) X J hp ht fun b => ?_)
  obtain ⟨cd, hc, hd'⟩ := PySem.W.any_some hh
  have hx : s.heap.get? x = some ⟨.ref C, some dx, .plain, #[]⟩ := I.obj
  refine wpAny_bind (wpAny_pure (wpAny_bind (wpAny_bind (wpAny_loadPart hx (wpAny_bind (PySem.W.Looks.here (s := { s with toks := s.toks + 1 }) (PySem.W.looks_clsIn X hc) ?_))))))
  rw [hd']
  refine wpAny_pure (a := some dx) (wpAny_bind (wpAny_pure (wpAny_bind ?_)))
  refine wpAny_nsSet1 (s := { s with toks := s.toks + 1 }) I.ns fun h' hn2 hs2 => ?_
  obtain ⟨oD, esD, epD, hoD, hdD, hcD⟩ := hn2.count (PySem.Within.cons name v hw)
  refine wpAny_bind (wpAny_lookBehind hoD (by rw [hdD]; exact pastItsLine_dict (Nat.le_trans hcD (by rw [List.length_cons]; omega))) ?_)
  exact wpAny_pure (h _ ⟨(hs2.2 _ (Ne.symm I.ne)).trans I.obj, hn2, I.ne⟩ hs2)
theorem make_map {R : Result → Shared → Prop} {vs : List Value} {kw : List (Str × Value)} (X : K.In s.heap) (hm : PySem.W.makesIn K C = true)
    (hi : PySem.W.findIn K (.ref C) "__init__" = some (some (.ref f))) (hf : PySem.W.typeIn K (.ref f) = some (.type "function"))
    (h : codeAny (model prog w) (A.under (.builtin "type.__call__" ⟨.ref C :: vs, kw⟩)) (.call (.ref f) ⟨.ref (s.heap.objs.size + 1) :: vs, kw⟩) (PySem.W.InitBack (s.heap.objs.size + 1) R)
      { s with heap := (s.heap.push PySem.W.emptyDict).push (PySem.W.instObj C s.heap.objs.size) }) :
    codeAny (model prog w) A (.call (.ref C) ⟨vs, kw⟩) R s := by
  obtain ⟨hh, g, d, t, os⟩ := s
  exact PySem.W.make_core (PySem.W.makes_of X hm) (PySem.W.looks_findIn X hi) (fun self => PySem.W.bind_fn X self hf) (.inl rfl) h
end
noncomputable def putF (f : Str) (v : V) : List (Str × V) → List (Str × V)
  | [] => [(f, v)]
  | (g, x) :: r => if g = f then (g, v) :: r else (g, x) :: putF f v r
theorem lookup_putF (f g : Str) (v : V) : ∀ fs : List (Str × V), (putF f v fs).lookup g = if g = f then some v else fs.lookup g
  | [] => by
    show List.lookup g [(f, v)] = _
    by_cases h : g = f
    · have hb : (g == f) = true := beq_iff_eq.mpr h
      simp only [List.lookup, hb, if_pos h]
    · have hb : (g == f) = false := beq_eq_false_iff_ne.mpr h
      simp only [List.lookup, hb, if_neg h]
  | (k, x) :: r => by
    have ih := lookup_putF f g v r
    rw [show putF f v ((k, x) :: r) = (if k = f then (k, v) :: r else (k, x) :: putF f v r) from rfl]
    by_cases hk : k = f
    · rw [if_pos hk]
      by_cases h : g = k
      · have hb : (g == k) = true := beq_iff_eq.mpr h
        simp only [List.lookup, hb, if_pos (h.trans hk)]
      · have hb : (g == k) = false := beq_eq_false_iff_ne.mpr h
        simp only [List.lookup, hb, if_neg (fun e : g = f => h (e.trans hk.symm))]
    · rw [if_neg hk]
      by_cases h : g = k
      · have hb : (g == k) = true := beq_iff_eq.mpr h
        simp only [List.lookup, hb, if_neg (fun e : g = f => hk (h.symm.trans e))]
      · have hb : (g == k) = false := beq_eq_false_iff_ne.mpr h
        simp only [List.lookup, hb]
        exact ih
theorem keys_putF (f : Str) (v : V) : ∀ fs : List (Str × V), f ∈ (putF f v fs).map (·.1) ∧ ∀ g, g ∈ fs.map (·.1) → g ∈ (putF f v fs).map (·.1)
  | [] => ⟨by simp [putF], fun g h => by simp at h⟩
  | (k, x) :: r => by
    obtain ⟨i1, i2⟩ := keys_putF f v r
    rw [show putF f v ((k, x) :: r) = (if k = f then (k, v) :: r else (k, x) :: putF f v r) from rfl]
    by_cases hk : k = f
    · rw [if_pos hk]
      subst hk
      exact ⟨by simp, fun g h => by simpa using h⟩
    · rw [if_neg hk]
      refine ⟨?_, fun g h => ?_⟩
      · rw [List.map_cons]
        exact List.mem_cons_of_mem _ i1
      · rw [List.map_cons] at h ⊢
        rcases List.mem_cons.mp h with e | e
        · exact List.mem_cons.mpr (.inl e)
        · exact List.mem_cons_of_mem _ (i2 g e)
theorem length_putF (f : Str) (v : V) : ∀ fs : List (Str × V), (putF f v fs).length ≤ fs.length + 1
  | [] => by simp [putF]
  | (k, x) :: r => by
    have ih := length_putF f v r
    rw [show putF f v ((k, x) :: r) = (if k = f then (k, v) :: r else (k, x) :: putF f v r) from rfl]
    by_cases hk : k = f
    · rw [if_pos hk, List.length_cons, List.length_cons]; omega
    · rw [if_neg hk, List.length_cons, List.length_cons]; omega
theorem RelO.some_of {v : V} {o : Option Value} (r : RelO (some v) o) : ∃ u, o = some u ∧ RelV v u := by
  cases o with
  | none => exact (show False from r).elim
  | some u => exact ⟨u, rfl, r⟩
theorem handed_of {v : V} {u : Value} (r : RelV v u) : PySem.W.handedIn u = true := by
  cases v with
  | non => cases (show u = Value.none from r); rfl
  | bl b => cases (show u = Value.bool b from r); rfl
  | int i => obtain ⟨t, e⟩ := (show ∃ t, u = Value.int i t from r); cases e; rfl
  | str x => obtain ⟨t, e⟩ := (show ∃ t, u = Value.str x t from r); cases e; rfl
  | byt b => obtain ⟨t, e⟩ := (show ∃ t, u = Value.bytes b t from r); cases e; rfl
  | flt b => obtain ⟨t, e⟩ := (show ∃ t, u = Value.float b t from r); cases e; rfl
  | ref a => cases (show u = Value.ref a from r); rfl
  | ty n => cases (show u = Value.type n from r); rfl
section
variable {P : Program} {w : World} {H H' : Hp} {h h' : Heap} {a C dx : Addr} {fs fs' : List (Str × V)}
theorem ins_get (hok : HOk P w H h) (e : H a = some (.ins C dx fs)) : ∃ mA, ObjM h a dx C mA ∧ (∀ f, RelO (fs.lookup f) (mA f)) ∧ PySem.Within mA (fs.map (·.1)) ∧ fs.length ≤ 1000 ∧ H dx = some (.own a) := by
  obtain ⟨d, z, ne, ob, mA, n, r, q⟩ := (show ObjOk P w H h a (.ins C dx fs) from hok a _ e)
  exact ⟨mA, ⟨ob, n, ne⟩, r, q, z, d⟩
end
structure Cls (K : PySem.W.Frag) (C : Addr) : Prop where
  pg : PySem.W.plainGet K C Str.empty = true
  hd : PySem.W.hasDictIn K C = true
  po : PySem.W.plainOver K C = true
  sa : PySem.W.findIn K (.ref C) "__setattr__" = some (some (.builtin "object.__setattr__"))
theorem Cls.get {K : PySem.W.Frag} {C : Addr} (c : Cls K C) (f : Str) : PySem.W.plainGet K C f = true := c.pg
noncomputable def NoAttr (K : PySem.W.Frag) (C : Addr) (f : Str) : Prop := PySem.W.findIn K (.ref C) f = some none
theorem NoAttr.taker {K : PySem.W.Frag} {C : Addr} {f : Str} (n : NoAttr K C f) : PySem.W.takerIn K C f = some none := by
  unfold PySem.W.takerIn
  rw [show PySem.W.findIn K (.ref C) f = some none from n]
  rfl
section
variable {X : Cx} {pins : List (Addr × Obj)} {σ : St} {H : Hp} {s : Shared} {a C dx : Addr} {fs : List (Str × V)} {f : Str} {v : V} {A : Around} {E : Value → Shared → Prop}
theorem getattr_ok {b : Bool} {Q : Value → Shared → Prop} (I : Inv X pins σ H s) (e : H a = some (.ins C dx fs)) (c : Cls X.K C) (n : NoAttr X.K C f) (l : fs.lookup f = some v)
    (h : ∀ u s', Inv X pins σ H s' → RelV v u → Q u s') : wpAny (model X.prog X.w) A (getAttr (.ref a) f b) Q E s := by
  obtain ⟨mA, O, r, _, _, _⟩ := ins_get I.hok e
  obtain ⟨u, hu, ru⟩ := RelO.some_of (v := v) (o := mA f) (by rw [← l]; exact r f)
  exact get_map I.kIn O (c.get f) c.hd n hu (handed_of ru) (h u _ (I.tok _) ru)
theorem setattr_ok {y : V} {u : Value} {Q : Unit → Shared → Prop} (I : Inv X pins σ H s) (e : H a = some (.ins C dx fs)) (c : Cls X.K C) (n : NoAttr X.K C f) (hl : fs.length < 1000) (ry : RelV y u)
    (h : ∀ s', Inv X pins σ (upd H a (.ins C dx (putF f y fs))) s' → Q () s') : wpAny (model X.prog X.w) A (setAttr (.ref a) f u) Q E s := by
  obtain ⟨mA, O, r, wi, _, ho⟩ := ins_get I.hok e
  have hz : (fs.map (·.1)).length ≤ sizeLine := by rw [List.length_map, sizeLine_eq]; omega
  refine set_map I.kIn O c.sa c.po n.taker c.hd wi hz fun h' O' sb => h _ ?_
  have hd : ∃ o, h'.get? dx = some o := let ⟨o, _, _, e', _⟩ := O'.ns; ⟨o, e'⟩
  refine I.write (x := a) (e := dx) (by rw [e]; exact True.intro) (.inr ho) (fun b q hb z => (sb.2 b hb).trans z) hd ?_
  refine ⟨by rw [upd_ne O.ne]; exact ho, ?_, O.ne, O'.obj, _, O'.ns, fun g => ?_, fun g hg => ?_⟩
  · have := length_putF f y fs; omega
  · show RelO ((putF f y fs).lookup g) (if g = f then some u else mA g)
    rw [lookup_putF]
    by_cases q : g = f
    · rw [if_pos q, if_pos q]; exact ry
    · rw [if_neg q, if_neg q]; exact r g
  · by_cases q : g = f
    · rw [q]; exact (keys_putF f y fs).1
    · refine (keys_putF f y fs).2 g (wi g fun z => hg ?_)
      show (if g = f then some u else mA g) = none
      rw [if_neg q]; exact z
theorem Inv.made (I : Inv X pins σ H s) : Inv X pins σ (upd (upd H s.heap.objs.size (.own (s.heap.objs.size + 1))) (s.heap.objs.size + 1) (.ins C s.heap.objs.size []))
    { s with heap := (s.heap.push PySem.W.emptyDict).push (PySem.W.instObj C s.heap.objs.size) } := by
  have e1 : (s.heap.push PySem.W.emptyDict).get? s.heap.objs.size = some PySem.W.emptyDict := Heap.get?_push_size s.heap rfl
  have e2 : ((s.heap.push PySem.W.emptyDict).push (PySem.W.instObj C s.heap.objs.size)).get? (s.heap.objs.size + 1) = some (PySem.W.instObj C s.heap.objs.size) := by
    have := Heap.get?_push_size (s.heap.push PySem.W.emptyDict) (o := PySem.W.instObj C s.heap.objs.size) rfl
    rwa [Heap.size_push] at this
  have e3 : (s.heap.push PySem.W.emptyDict).Ns s.heap.objs.size (fun _ => none) := ⟨PySem.W.emptyDict, #[], _, e1, rfl, (fun e he => absurd he (by simp)), fun _ => rfl⟩
  have I1 := I.laid (a := s.heap.objs.size) (o := .own (s.heap.objs.size + 1)) (h' := s.heap.push PySem.W.emptyDict) (t' := s.toks) (fun b u q => Heap.get?_push_of_some _ q) (Nat.le_refl _) ⟨_, e1⟩
  refine I1.laid (a := s.heap.objs.size + 1) (o := .ins C s.heap.objs.size []) (t' := s.toks) (fun b u q => Heap.get?_push_of_some _ q) (Nat.le_of_eq (Heap.size_push _ _)) ?_
  have ne : s.heap.objs.size ≠ s.heap.objs.size + 1 := Nat.ne_of_lt (Nat.lt_succ_self _)
  refine ⟨by rw [upd_ne ne, upd_same], Nat.zero_le _, ne, e2, fun _ => none, (Heap.Ns1.of_empty e3).at fun o q => Heap.get?_push_of_some _ q, fun _ => True.intro, fun y hy => absurd rfl hy⟩
theorem attr_of {prog : Program} {w : World} {env : Env} {e : Expr} {f : Str} {pos : Pos} {s : Shared} {Q : Value → Shared → Prop} (hb : attributeBase e f env (eval e env) = eval e env)
    (h : wpAny (model prog w) A (eval e env) (fun o s₁ => wpAny (model prog w) A (getAttr o f true) Q E s₁) E s) : wpAny (model prog w) A (eval (.Attribute e f pos) env) Q E s :=
  Attribute_any_ h (by rw [arm_eval_Attribute, hb])
end
noncomputable def tFld (K : PySem.W.Frag) (ta : TE) (f : Str) : TE := fun σ H Q => ta σ H fun x H1 => ∃ a C dx fs v, x = .ref a ∧ H1 a = some (.ins C dx fs) ∧ Cls K C ∧ NoAttr K C f ∧ fs.lookup f = some v ∧ Q v H1
noncomputable def sFld (K : PySem.W.Frag) (ta tv : TE) (f : Str) : TS := fun D σ H => tv σ H fun y H1 => ta σ H1 fun x H2 => ∃ a C dx fs, x = .ref a ∧ H2 a = some (.ins C dx fs) ∧ Cls K C ∧ NoAttr K C f ∧ fs.length < 1000 ∧
  D.nx σ (upd H2 a (.ins C dx (putF f y fs)))
section
variable {X : Cx} {o e value : Expr} {f : Str} {pos pos' tpos : Pos} {ta tv : TE}
theorem pe_fld (he : PE X e ta) (hb : attributeBase e f X.env (eval e X.env) = eval e X.env) : PE X (.Attribute e f pos) (tFld X.K ta f) := by
  intro pins s σ H Q I h
  refine attr_of hb (thn (he pins s σ H _ I h) fun u s1 ⟨x, H1, I1, rx, a, C, dx, fs, v, ex, ea, c, n, l, q⟩ => ?_)
  subst ex
  obtain rfl : u = Value.ref a := rx
  exact getattr_ok I1 ea c n l fun u' s2 I2 ru => ⟨v, H1, I2, ru, q⟩
theorem ps_fld (ha : PE X o ta) (hv : PE X value tv) (hs : swapsWith value (some (.Attribute o f pos')) pos.line X.env = pure false) : PS X (.Assign [.Attribute o f pos'] value pos) (sFld X.K ta tv f) := by
  intro pins s σ H D I h
  refine plainObj_wpAny_Assign_Attribute (thn (hv pins s σ H _ I h) fun u s1 ⟨y, H1, I1, ry, q⟩ => thn (ha pins s1 σ H1 _ I1 q) fun ov s2 ⟨x, H2, I2, rx, a, C, dx, fs, ex, ea, c, n, l, q2⟩ => ?_) hs
  subst ex
  obtain rfl : ov = Value.ref a := rx
  exact setattr_ok I2 ea c n l ry fun s3 I3 => ⟨σ, _, I3, q2⟩
end
section
variable {X : Cx} {pins : List (Addr × Obj)} {σ : St} {H : Hp} {s : Shared} {A : Around} {E : Value → Shared → Prop} {Q : Value → Shared → Prop} {c : Value} {b : Bool}
end
end L2
namespace L2
open PySem PySem.Spec PyProof.Rows
structure Room (k : Nat) (A : Around) : Prop where
  hd : A.handled = none
  dp : A.depth + 3 * k + 5 < recursionLimit
  un : A.units + 16 * k + 200 < cLine
theorem Room.mono {j k : Nat} {A : Around} (r : Room k A) (h : j ≤ k) : Room j A := ⟨r.hd, by have := r.dp; omega, by have := r.un; omega⟩
theorem Room.deeper {k : Nat} {A : Around} (r : Room (k + 1) A) (env : Env) : Room k (A.deeper env) :=
  ⟨r.hd, by have := r.dp; show A.depth + 1 + 3 * k + 5 < _; omega, by have := r.un; show A.units + 3 + 16 * k + 200 < _; omega⟩
theorem Room.in1 {k : Nat} {A : Around} (r : Room (k + 1) A) : Room k A.in1 :=
  ⟨r.hd, by have := r.dp; show A.depth + 3 * k + 5 < _; omega, by have := r.un; show A.units + 1 + 16 * k + 200 < _; omega⟩
theorem make_depth {A : Around} {C : Addr} {us : List Value} {kw : List (Str × Value)} : (A.under (.builtin "type.__call__" ⟨.ref C :: us, kw⟩)).depth = A.depth + 1 := by
  first | rfl | simp [Around.under, Code.weight, Code.isCreation, Code.isGuard, Code.isCaller, Code.frames, Code.isFrame, guardIds]
theorem make_units {A : Around} {C : Addr} {us : List Value} {kw : List (Str × Value)} : (A.under (.builtin "type.__call__" ⟨.ref C :: us, kw⟩)).units = A.units + 1 := by
  first | rfl | simp [Around.under, Code.cUnits, Code.frames, Code.isFrame]
theorem Room.make {k : Nat} {A : Around} (r : Room (k + 1) A) (C : Addr) (us : List Value) (kw : List (Str × Value)) : Room k (A.under (.builtin "type.__call__" ⟨.ref C :: us, kw⟩)) :=
  ⟨r.hd, by have := r.dp; rw [make_depth]; omega, by have := r.un; rw [make_units]; omega⟩
theorem Room.depth {k : Nat} {A : Around} (r : Room k A) : A.depth < recursionLimit := by have := r.dp; omega
theorem Room.units {k : Nat} {A : Around} (r : Room k A) : A.units + 64 < cLine := by have := r.un; omega
noncomputable def tNil : TA := fun _ H Q => Q [] H
noncomputable def tCons (ta : TE) (tr : TA) : TA := fun σ H Q => ta σ H fun x H1 => tr σ H1 fun xs H2 => Q (x :: xs) H2
section
variable {X : Cx} {e : Expr} {es : List Expr} {te : TE} {t : TA} {pos : Pos}
theorem pa_nil : PA X [] tNil := fun _ _ _ _ H Q I h => Calls.spliced_nil ⟨[], H, I, .nil, h⟩
theorem pa_cons (ha : PE X e te) (hr : PA X es t) (hs : starEach (e :: es) X.env = (false, eval e X.env) :: starEach es X.env := by rfl) : PA X (e :: es) (tCons te t) := by
  intro pos pins s σ H Q I h
  rw [hs]
  show wpAny _ _ (spliced ((false, eval e X.env) :: backTo pos (starEach es X.env))) _ _ s
  refine Calls.spliced_cons (thn (ha pins s σ H _ I h) fun u s1 ⟨x, H1, I1, r1, q1⟩ => ?_)
  exact thn (hr pos pins s1 σ H1 _ I1 q1) fun us s2 ⟨xs, H2, I2, r2, q2⟩ => ⟨x :: xs, H2, I2, .cons r1 r2, q2⟩
noncomputable def tTup (t : TA) : TE := fun σ H Q => t σ H fun xs H1 => xs.length ≤ sizeLine ∧ ∀ p, H1 p = none → Q (.ref p) (upd H1 p (.tup xs))
noncomputable def tLst (t : TA) : TE := fun σ H Q => t σ H fun xs H1 => xs.length ≤ sizeLine ∧ ∀ p, H1 p = none → Q (.ref p) (upd H1 p (.lst xs))
theorem pe_tup {x1} (h : PA X es t) : PE X (.Tuple es x1 pos) (tTup t) := by
  intro pins s σ H Q I hq
  refine wpAny_Tuple_spliced (thn (h pos pins s σ H _ I hq) fun us s1 ⟨xs, H1, I1, r, z, q⟩ => ⟨by rw [← r.length]; exact z, ?_⟩)
  have hf : H1 s1.heap.objs.size = none := I1.hok.fresh (Nat.le_refl _)
  refine ⟨.ref s1.heap.objs.size, upd H1 s1.heap.objs.size (.tup xs), I1.laid (t' := s1.toks) (fun b u e => Heap.get?_push_of_some _ e) (Nat.le_refl _) ?_, rfl, q _ hf⟩
  exact ⟨z, us, r, ⟨_, Heap.get?_push_size _ rfl, rfl, _, rfl⟩⟩
theorem pe_lst (h : PA X es t) : PE X (.List es pos) (tLst t) := by
  intro pins s σ H Q I hq
  refine wpAny_List_spliced (thn (h pos pins s σ H _ I hq) fun us s1 ⟨xs, H1, I1, r, z, q⟩ => ⟨by rw [← r.length]; exact z, ?_⟩)
  have hf : H1 s1.heap.objs.size = none := I1.hok.fresh (Nat.le_refl _)
  refine ⟨.ref s1.heap.objs.size, upd H1 s1.heap.objs.size (.lst xs), I1.laid (t' := s1.toks) (fun b u e => Heap.get?_push_of_some _ e) (Nat.le_refl _) ?_, rfl, q _ hf⟩
  exact ⟨z, us, 0, r, Heap.get?_push_size _ rfl⟩
end
noncomputable abbrev Sp := List V → Hp → VK → XK → Prop
noncomputable abbrev CXT := List Env → Hp → Shared → XK → Value → Shared → Prop
structure Env0 (P : Program) (w : World) (K : PySem.W.Frag) (mg : Str → Option Value) (base : Heap) (A : Around) (outer : List Env) (s : Shared) (H : Hp) : Prop where
  frames : A.frames = some outer
  mod : Mod K mg base
  bs : ∀ b o, base.get? b = some o → s.heap.get? b = some o ∧ H b = none
  bsz : base.objs.size ≤ s.heap.objs.size
  funs : s.heap.FunFrames base outer
  frf : ∀ b ∈ frs outer, H b = none
  hok : HOk P w H s.heap
  bare : AllBare s.gens
noncomputable def CE (outer : List Env) (P : Program) (w : World) (H : Hp) (s : Shared) (Q : VK) (u : Value) (s' : Shared) : Prop :=
  ∃ v H', s'.os = s.os ∧ AllBare s'.gens ∧ Un (frs outer) [] H H' s.heap s'.heap ∧ HOk P w H' s'.heap ∧ RelV v u ∧ Q v H'
noncomputable def CR (CX : CXT) (outer : List Env) (P : Program) (w : World) (H : Hp) (s : Shared) (Q : VK) (E : XK) (r : Result) (s' : Shared) : Prop :=
  match r with
  | .ok (.ret u) => CE outer P w H s Q u s'
  | .ok _ => False
  | .error e => CX outer H s E e s'
structure FnOk (P : Program) (w : World) (K : PySem.W.Frag) (mg : Str → Option Value) (base : Heap) (CX : CXT) (k : Nat) (f : Addr) (fd : FuncData) (ps : List Str) (sp : Sp) : Prop where
  len : ∀ vs H Q E, sp vs H Q E → vs.length = ps.length
  run : ∀ (A : Around) (outer : List Env) (s : Shared) (H : Hp) (args : Args) (us : List Value) (vs : List V) (Q : VK) (E : XK), Room k A → Env0 P w K mg base A outer s H → BindsTo s fd args (ps.zip us) → Vals vs us → sp vs H Q E →
    codeAny (model P w) A (.call (.ref f) args) (CR CX outer P w H s Q E) s
theorem FnOk.mono {P : Program} {w : World} {K : PySem.W.Frag} {mg : Str → Option Value} {base : Heap} {CX : CXT} {j k : Nat} {f : Addr} {fd : FuncData} {ps : List Str} {sp : Sp} (F : FnOk P w K mg base CX j f fd ps sp) (h : j ≤ k) :
    FnOk P w K mg base CX k f fd ps sp := ⟨F.len, fun A outer s H args us vs Q E hr => F.run A outer s H args us vs Q E (hr.mono h)⟩
theorem Env0.make {P : Program} {w : World} {K : PySem.W.Frag} {mg : Str → Option Value} {base : Heap} {A : Around} {outer : List Env} {s : Shared} {H : Hp} (e : Env0 P w K mg base A outer s H) (C : Addr) (us : List Value) (kw : List (Str × Value)) :
    Env0 P w K mg base (A.under (.builtin "type.__call__" ⟨.ref C :: us, kw⟩)) outer s H := ⟨by first | exact e.frames | (simpa [Around.under, Code.envs, Code.isFrame, pushEnvs] using e.frames), e.mod, e.bs, e.bsz, e.funs, e.frf, e.hok, e.bare⟩
theorem Env0.in1 {P : Program} {w : World} {K : PySem.W.Frag} {mg : Str → Option Value} {base : Heap} {A : Around} {outer : List Env} {s : Shared} {H : Hp} (e : Env0 P w K mg base A outer s H) :
    Env0 P w K mg base A.in1 outer s H := ⟨e.frames, e.mod, e.bs, e.bsz, e.funs, e.frf, e.hok, e.bare⟩
section
variable {X : Cx} {pins : List (Addr × Obj)} {σ : St} {H : Hp} {s s' : Shared}
theorem Inv.env0 (I : Inv X pins σ H s) : Env0 X.prog X.w X.K X.mg X.base X.A X.stack s H :=
  ⟨I.ok.frames, I.ok.mod, I.bs, Nat.le_trans I.ok.bsz I.sz, I.stack, I.stkFree, I.hok, I.bare⟩
theorem Inv.after {Q : VK} {u : Value} (I : Inv X pins σ H s) (h : CE X.stack X.prog X.w H s Q u s') : EP X pins σ Q u s' := by
  obtain ⟨v, H', os, bare, un, hok, r, q⟩ := h
  obtain ⟨hh, g, d, t, os'⟩ := s'
  obtain rfl : os' = s.os := os
  exact ⟨v, H', I.call (h' := hh) (g' := g) (d' := d) (t' := t) (ch := []) un hok bare (fun b z => absurd z (by simp)), r, q⟩
end
noncomputable def tCall (sp : Sp) (dvs : List V) (E : XK) (t : TA) : TE := fun σ H Q => t σ H fun vs H1 => sp (vs ++ dvs) H1 Q E
noncomputable def tMake (C : Addr) (sp : Sp) (dvs : List V) (E : XK) (t : TA) : TE := fun σ H Q => t σ H fun vs H1 => ∀ x dx, H1 x = none → H1 dx = none → dx ≠ x →
  sp (.ref x :: (vs ++ dvs)) (upd (upd H1 dx (.own x)) x (.ins C dx [])) (fun v H2 => v = .non ∧ Q (.ref x) H2) E
noncomputable def Binds (K : PySem.W.Frag) (fd : FuncData) (ps : List Str) (ds : List Value) : Prop :=
  ∀ (s : Shared) (us : List Value), K.In s.heap → (us ++ ds).length = ps.length → BindsTo s fd ⟨us, []⟩ (ps.zip (us ++ ds))
theorem Binds.all {K : PySem.W.Frag} {fd : FuncData} {ps : List Str} (h : ∀ us : List Value, us.length = ps.length → bindArgs fd ⟨us, []⟩ = pure (ps.zip us)) : Binds K fd ps [] := fun s us _ hl => by
  rw [List.append_nil] at hl ⊢
  exact .of_eq (h us hl)
noncomputable def Passes (CX : CXT) (X : Cx) (E : XK) : Prop := ∀ (pins : List (Addr × Obj)) (σ : St) (H : Hp) (s : Shared) (e : Value) (s' : Shared), Inv X pins σ H s → CX X.stack H s E e s' → X.xe e s'
section
variable {X : Cx} {CX : CXT} {k : Nat} {f C : Addr} {fd : FuncData} {ps : List Str} {sp : Sp} {dvs : List V} {ds : List Value} {E : XK} {x m : Str} {p pos apos : Pos} {e o : Expr} {es : List Expr} {ta : TE} {t : TA}
theorem run_fn {pins : List (Addr × Obj)} {σ : St} {H : Hp} {s : Shared} {Q : VK} {us : List Value} {vs : List V} (F : FnOk X.prog X.w X.K X.mg X.base CX k f fd ps sp) (hr : Room k X.A) (hb : Binds X.K fd ps ds) (hd : Vals dvs ds) (hx : Passes CX X E)
    (I : Inv X pins σ H s) (r : Vals vs us) (h : sp (vs ++ dvs) H Q E) : wpAny (model X.prog X.w) X.A (call (.ref f) us) (EP X pins σ Q) X.xe s := by
  have r2 : Vals (vs ++ dvs) (us ++ ds) := r.append hd
  have hl : (us ++ ds).length = ps.length := by rw [← r2.length]; exact F.len _ _ _ _ h
  refine wpAny_call (codeAny_mono (F.run X.A X.stack s H ⟨us, []⟩ (us ++ ds) (vs ++ dvs) Q E hr I.env0 (hb s us I.kIn hl) r2 h) fun r s' hq => ?_)
  cases r with
  | error e => exact hx pins σ H s e s' I hq
  | ok fl =>
    cases fl with
    | ret u => exact I.after hq
    | next => exact False.elim hq
    | brk => exact False.elim hq
    | cont => exact False.elim hq
theorem pe_call (F : FnOk X.prog X.w X.K X.mg X.base CX k f fd ps sp) (hr : Room k X.A) (hg : Gl X x) (hm : X.mg x = some (.ref f)) (hk : PySem.W.keepIn X.K (.ref f) = true) (hb : Binds X.K fd ps ds) (hd : Vals dvs ds) (hx : Passes CX X E)
    (ha : PA X (e :: es) t) (hdb : (x == ("__debug__" : Str)) = false := by decide) (he : starEach (e :: es) X.env = (false, eval e X.env) :: starEach es X.env := by rfl) (hpl : (backTo pos (starEach es X.env)).any (·.1) = false := by rfl) :
    PE X (.Call (.Name x p) (e :: es) [] pos) (tCall sp dvs E t) := by
  intro pins s σ H Q I h
  refine wpAny_Call_Name_kw (ld_glob I hg hm ?_ hdb)
  refine PySem.W.callWith_K (h₀ := X.base) I.ok.mod.kin hk (thn (ha pos pins s σ H _ I h) fun us s1 ⟨vs, H1, I1, r, q⟩ => ⟨I1.kIn, ?_⟩) he hpl
  exact run_fn F hr hb hd hx I1 r q
structure Mk (K : PySem.W.Frag) (C f : Addr) : Prop where
  makes : PySem.W.makesIn K C = true
  init : PySem.W.findIn K (.ref C) "__init__" = some (some (.ref f))
  fn : PySem.W.isFn K (.ref f) = true
  kp : PySem.W.keepIn K (.ref C) = true
theorem run_make {pins : List (Addr × Obj)} {σ : St} {H : Hp} {s : Shared} {Q : VK} {us : List Value} {vs : List V} (M : Mk X.K C f) (F : FnOk X.prog X.w X.K X.mg X.base CX k f fd ps sp) (hr : Room (k + 1) X.A) (hb : Binds X.K fd ps ds) (hd : Vals dvs ds)
    (hx : Passes CX X E) (I : Inv X pins σ H s) (r : Vals vs us)
    (h : ∀ x dx, H x = none → H dx = none → dx ≠ x → sp (.ref x :: (vs ++ dvs)) (upd (upd H dx (.own x)) x (.ins C dx [])) (fun v H2 => v = .non ∧ Q (.ref x) H2) E) :
    wpAny (model X.prog X.w) X.A (call (.ref C) us) (EP X pins σ Q) X.xe s := by
  have hq := h (s.heap.objs.size + 1) s.heap.objs.size (I.hok.fresh (Nat.le_succ _)) (I.hok.fresh (Nat.le_refl _)) (Nat.ne_of_lt (Nat.lt_succ_self _))
  have I2 := Inv.made (C := C) I
  have r2 : Vals (V.ref (s.heap.objs.size + 1) :: (vs ++ dvs)) (Value.ref (s.heap.objs.size + 1) :: (us ++ ds)) := .cons rfl (r.append hd)
  have hl : (Value.ref (s.heap.objs.size + 1) :: us ++ ds).length = ps.length := by
    have e := r2.length
    rw [F.len _ _ _ _ hq] at e
    exact e.symm
  refine wpAny_call (make_map (f := f) I.kIn M.makes M.init (beq_iff_eq.mp M.fn) (codeAny_mono (F.run _ X.stack _ _ ⟨Value.ref (s.heap.objs.size + 1) :: us, []⟩ (Value.ref (s.heap.objs.size + 1) :: (us ++ ds)) _ _ E (hr.make C us [])
    (I2.env0.make C us []) (hb _ (Value.ref (s.heap.objs.size + 1) :: us) I2.kIn hl) r2 hq) fun r s' hq' => ?_))
  cases r with
  | error e => exact hx pins σ _ _ e s' I2 hq'
  | ok fl =>
    cases fl with
    | ret u =>
      obtain ⟨v, H', I3, rv, ev, q3⟩ := I2.after hq'
      subst ev
      exact ⟨rv, ⟨V.ref (s.heap.objs.size + 1), H', I3, rfl, q3⟩⟩
    | next => exact False.elim hq'
    | brk => exact False.elim hq'
    | cont => exact False.elim hq'
theorem pe_make (M : Mk X.K C f) (F : FnOk X.prog X.w X.K X.mg X.base CX k f fd ps sp) (hr : Room (k + 1) X.A) (hg : Gl X x) (hm : X.mg x = some (.ref C)) (hb : Binds X.K fd ps ds) (hd : Vals dvs ds) (hx : Passes CX X E)
    (ha : PA X (e :: es) t) (hdb : (x == ("__debug__" : Str)) = false := by decide) (he : starEach (e :: es) X.env = (false, eval e X.env) :: starEach es X.env := by rfl) (hpl : (backTo pos (starEach es X.env)).any (·.1) = false := by rfl) :
    PE X (.Call (.Name x p) (e :: es) [] pos) (tMake C sp dvs E t) := by
  intro pins s σ H Q I h
  refine wpAny_Call_Name_kw (ld_glob I hg hm ?_ hdb)
  refine PySem.W.callWith_K (h₀ := X.base) I.ok.mod.kin M.kp (thn (ha pos pins s σ H _ I h) fun us s1 ⟨vs, H1, I1, r, q⟩ => ⟨I1.kIn, ?_⟩) he hpl
  exact run_make M F hr hb hd hx I1 r q
end
noncomputable def PK (X : Cx) (kws : List Keyword) (t : TA) : Prop :=
  ∀ (pos : Pos) (pins : List (Addr × Obj)) (s : Shared) (σ : St) (H : Hp) (Q : List V → Hp → Prop), Inv X pins σ H s → t σ H Q → wpAny (model X.prog X.w) X.A (evalAll ((backToKw pos (keywordEach kws X.env)).map (·.2))) (AP X pins σ Q) X.xe s
section
variable {X : Cx} {CX : CXT} {k : Nat} {f C : Addr} {fd : FuncData} {ps ks : List Str} {sp : Sp} {E : XK} {x m : Str} {p pos apos kpos : Pos} {e o : Expr} {es : List Expr} {kws : List Keyword} {te ta : TE} {t tk : TA} {nm : Option Str}
theorem pk_nil : PK X [] tNil := fun _ _ _ _ H Q I h => wpAny_evalAll_nil ⟨[], H, I, .nil, h⟩
theorem pk_cons (ha : PE X e te) (hr : PK X kws t) : PK X (⟨nm, e, kpos⟩ :: kws) (tCons te t) := by
  intro pos pins s σ H Q I h
  show wpAny _ _ (evalAll ((do let v ← eval e X.env; standAt pos; pure v) :: (backToKw pos (keywordEach kws X.env)).map (·.2))) _ _ s
  refine wpAny_evalAll_cons (wpAny_bind (thn (ha pins s σ H _ I h) fun u s1 ⟨x, H1, I1, r1, q1⟩ => wpAny_bind (wpAny_standAt (wpAny_pure ?_))))
  exact thn (hr pos pins s1 σ H1 _ I1 q1) fun us s2 ⟨xs, H2, I2, r2, q2⟩ => ⟨x :: xs, H2, I2, .cons r1 r2, q2⟩
variable {g : List Value → List Value → List Value} {gV : List V → List V → List V}
end
structure FnScope (N P : List Str) (sc : Scope) : Prop where
  kind : sc.kind = .function
  co : sc.isCoroutine = false
  gen : sc.isGenerator = false
  nd : N.Nodup
  pre : N.take P.length = P
  par : ∀ x ∈ P, sc.names.lookup x = some .local ∨ sc.names.lookup x = some .cell
  nofree : ∀ y ∈ sc.names, y.2 ≠ .free
theorem bindL_out {kindOf : Str → Option NameKind} {x : Str} : ∀ {binds : List (Str × Value)} {m : Str → Option Value}, (∀ v, (x, v) ∉ binds) → bindL kindOf binds m x = m x
  | [], _, _ => rfl
  | (n, v) :: r, m, h => by
    unfold bindL
    rw [bindL_out fun w hw => h w (List.mem_cons_of_mem _ hw)]
    split
    · have : x ≠ n := by rintro rfl; exact h v List.mem_cons_self
      simp [this]
    · rfl
theorem bindC_out {kindOf : Str → Option NameKind} {x : Str} : ∀ {binds : List (Str × Value)} {m : Str → Option Value}, (∀ v, (x, v) ∉ binds) → bindC kindOf binds m x = m x
  | [], _, _ => rfl
  | (n, v) :: r, m, h => by
    unfold bindC
    rw [bindC_out fun w hw => h w (List.mem_cons_of_mem _ hw)]
    split
    · rfl
    · have : x ≠ n := by rintro rfl; exact h v List.mem_cons_self
      simp [this]
theorem bindL_get {kindOf : Str → Option NameKind} {x : Str} {v : Value} : ∀ {P : List Str} {vs : List Value} {i : Nat} {m : Str → Option Value}, P.Nodup → P[i]? = some x → vs[i]? = some v → kindOf x = some .local →
    bindL kindOf (P.zip vs) m x = some v
  | [], _, _, _, _, h, _, _ => by simp at h
  | _ :: _, [], _, _, _, _, h, _ => by simp at h
  | p :: P, w :: vs, 0, m, nd, h1, h2, hk => by
    simp at h1 h2; subst h1; subst h2
    show bindL kindOf ((p, w) :: P.zip vs) m p = _
    unfold bindL
    rw [bindL_out fun v hv => (List.nodup_cons.mp nd).1 (List.of_mem_zip hv).1, if_pos hk]
    simp
  | p :: P, w :: vs, i + 1, m, nd, h1, h2, hk => by
    show bindL kindOf ((p, w) :: P.zip vs) m x = _
    unfold bindL
    exact bindL_get (i := i) (List.nodup_cons.mp nd).2 (by simpa using h1) (by simpa using h2) hk
theorem bindC_get {kindOf : Str → Option NameKind} {x : Str} {v : Value} : ∀ {P : List Str} {vs : List Value} {i : Nat} {m : Str → Option Value}, P.Nodup → P[i]? = some x → vs[i]? = some v → kindOf x ≠ some .local →
    bindC kindOf (P.zip vs) m x = some v
  | [], _, _, _, _, h, _, _ => by simp at h
  | _ :: _, [], _, _, _, _, h, _ => by simp at h
  | p :: P, w :: vs, 0, m, nd, h1, h2, hk => by
    simp at h1 h2; subst h1; subst h2
    show bindC kindOf ((p, w) :: P.zip vs) m p = _
    unfold bindC
    rw [bindC_out fun v hv => (List.nodup_cons.mp nd).1 (List.of_mem_zip hv).1, if_neg hk]
    simp
  | p :: P, w :: vs, i + 1, m, nd, h1, h2, hk => by
    show bindC kindOf ((p, w) :: P.zip vs) m x = _
    unfold bindC
    exact bindC_get (i := i) (List.nodup_cons.mp nd).2 (by simpa using h1) (by simpa using h2) hk
noncomputable def start (N : List Str) (vs : List V) : St := vs.map some ++ List.replicate (N.length - vs.length) none
noncomputable def cxOf (CX : CXT) (P : Program) (w : World) (K : PySem.W.Frag) (mg : Str → Option Value) (base : Heap) (N : List Str) (qual : Str) (scope : Scope) (f : Addr) (cd : Value) (A : Around) (outer : List Env) (s : Shared) (H : Hp) (E : XK) : Cx where
  prog := P
  w := w
  K := K
  mg := mg
  base := base
  A := A.deeper (envOfC qual scope s.heap.objs.size f cd)
  N := N
  s_0 := s
  H_0 := H
  env := envOfC qual scope s.heap.objs.size f cd
  outer := outer
  stack := envOfC qual scope s.heap.objs.size f cd :: outer
  ex := []
  calm := true
  fn := fun _ => true
  pn := []
  xe := fun e s' => wpAny (model P w) (A.deeper (envOfC qual scope s.heap.objs.size f cd)) (leaving (envOfC qual scope s.heap.objs.size f cd) e) (fun _ s'' => CX outer H s E e s'') (fun e' s'' => CX outer H s E e' s'') s'
theorem cell_has {sc : Scope} {n : Nat} {x : Str} (h : sc.names.lookup x = some .cell) : ∃ c, (cellsFrom n sc.names []).lookup x = some c := by
  have q := PySem.W.cellsFrom_some sc.names n [] (.inl h)
  exact Option.isSome_iff_exists.mp q
theorem inv_start {CX : CXT} {P : Program} {w : World} {K : PySem.W.Frag} {mg : Str → Option Value} {base : Heap} {N ps : List Str} {qual : Str} {scope : Scope} {f : Addr} {cd : Value} {A : Around} {outer : List Env} {s s1 : Shared} {H : Hp} {E : XK} {us : List Value} {vs : List V}
    (S : FnScope N ps scope) (hd : A.handled = none) (e0 : Env0 P w K mg base A outer s H) (hl : vs.length = ps.length) (r : Vals vs us)
    (x : InCallC s s.heap.objs.size (bindL (envOfC qual scope s.heap.objs.size f cd).kindOf (ps.zip us) fun _ => none) (cellsFrom (s.heap.objs.size + 1) scope.names []) (bindC (envOfC qual scope s.heap.objs.size f cd).kindOf (ps.zip us) fun _ => none) s1) :
    Inv (cxOf CX P w K mg base N qual scope f cd A outer s H E) [] (start N vs) H s1 := by
  have hpl : ps.length ≤ N.length := by have := congrArg List.length S.pre; rw [List.length_take] at this; omega
  obtain ⟨h1, tk, rfl, hk⟩ := x.done
  have noA : ∀ b : Addr, b ∉ (cxOf CX P w K mg base N qual scope f cd A outer s H E).ex := fun b z => absurd (show b ∈ ([] : List Addr) from z) (by simp)
  refine ⟨⟨e0.mod, S.kind, rfl, rfl, Nat.le_refl _, fun y z c h1 h2 => ?_, fun y hy => ?_, fun y c _ h => ?_, fun _ => hd, Around.frames_deeper e0.frames, .inr ⟨rfl, rfl⟩, fun b z => absurd z (noA b), e0.bs, e0.bsz, fun b _ _ => noA b, fun b z => absurd z (noA b), e0.funs, e0.frf⟩,
    rfl, e0.bare, Un.kept hk, ⟨_, x.toInCall.ns, fun i y v h1 h2 h3 => ?_⟩, fun y c h => ⟨_, x.cell y c h⟩, e0.hok.fresh (Nat.le_refl _), fun y c h => ?_, fun p hp => absurd (show p ∈ ([] : List (Addr × Obj)) from hp) (by simp), e0.hok.kept hk, ?_⟩
  · exact name_of_addr x.apart (PySem.mem_of_lookup h1) (PySem.mem_of_lookup h2)
  · have hy : scope.names.lookup y = some .cell ∨ scope.names.lookup y = some .free := hy
    rcases hy with hy | hy
    · exact cell_has hy
    · exact absurd rfl (S.nofree _ (PySem.mem_of_lookup hy))
  · exact Nat.le_of_lt (x.above y c (PySem.mem_of_lookup h))
  · have hi : i < vs.length := by
      unfold start at h2
      by_cases hi : i < vs.length
      · exact hi
      · rw [List.getElem?_append_right (by simpa using hi)] at h2
        rw [List.getElem?_replicate] at h2
        split at h2 <;> cases h2
    have ha : vs[i]? = some v := by
      unfold start at h2
      rw [List.getElem?_append_left (by simpa using hi), List.getElem?_map] at h2
      cases e : vs[i]? with
      | none => rw [e] at h2; cases h2
      | some a => rw [e] at h2; cases h2; rfl
    obtain ⟨u, hu, rv⟩ := r.get ha
    have hp : ps[i]? = some y := by
      rw [← S.pre, List.getElem?_take_of_lt (by omega)]; exact h1
    have ndP : ps.Nodup := by rw [← S.pre]; exact S.nd.sublist (List.take_sublist _ _)
    refine ⟨u, rv, ?_⟩
    rcases S.par y (List.mem_of_getElem? hp) with k | k
    · exact .inl ⟨k, bindL_get ndP hp hu k⟩
    · obtain ⟨c, e⟩ := cell_has (n := s.heap.objs.size + 1) k
      refine .inr ⟨.inl k, c, e, ?_⟩
      have q := x.cell y c e
      rw [bindC_get ndP hp hu (by show scope.names.lookup y ≠ _; rw [k]; decide)] at q
      exact q
  · exact e0.hok.fresh (Nat.le_of_lt (x.above y c (PySem.mem_of_lookup h)))
  · unfold start
    show _ = N.length
    rw [List.length_append, List.length_map, List.length_replicate]
    omega
theorem fn_of {CX : CXT} {P : Program} {w : World} {K : PySem.W.Frag} {mg : Str → Option Value} {base : Heap} {k : Nat} {f : Addr} {name qual : Str} {params : Arguments} {body : List Stmt} {scope : Scope} {dV kV doc pm cdv ct oc : Value} {an od : Option Addr}
    {osl : Array (Option Value)} {N ps : List Str} {sp : Sp} (lk : K.lookup f = some ⟨oc, od, .func (PySem.W.fnOf name qual params body scope dV kV doc pm an cdv ct), osl⟩) (hcd : PySem.W.codeIn K cdv qual = true) (S : FnScope N ps scope)
    (len : ∀ vs H Q E, sp vs H Q E → vs.length = ps.length)
    (hbody : ∀ (A : Around) (outer : List Env) (s : Shared) (H : Hp) (vs : List V) (Q : VK) (E : XK), Room k (A.deeper (envOfC qual scope s.heap.objs.size f cdv)) → sp vs H Q E →
      ∃ t, PSs (cxOf CX P w K mg base N qual scope f cdv A outer s H E) body t ∧ t { nx := fun _ H' => Q .non H', rt := Q } (start N vs) H) :
    FnOk P w K mg base CX (k + 1) f (PySem.W.fnOf name qual params body scope dV kV doc pm an cdv ct) ps sp := by
  refine ⟨len, fun A outer s H args us vs Q E hr e0 hb r hsp => ?_⟩
  have hl := len _ _ _ _ hsp
  have KX : K.In s.heap := e0.mod.kin.keeps fun b o e => (e0.bs b o e).1
  have lim : s.heap.NoLimit := e0.mod.nolimit.keeps fun b o e => (e0.bs b o e).1
  have hkind : ∀ y ∈ ps.zip us, scope.names.lookup y.1 = some .local ∨ (scope.names.lookup y.1 = some .cell ∧ ((cellsFrom (s.heap.objs.size + 1) scope.names []).lookup y.1).isSome = true) := fun ⟨n, v⟩ hy => by
    rcases S.par n (List.of_mem_zip hy).1 with q | q
    · exact .inl q
    · exact .inr ⟨q, PySem.W.cellsFrom_some _ _ _ (.inl q)⟩
  refine codeAny_call_function hr.depth (KX _ _ lk) rfl S.co S.gen rfl (PySem.W.codeRec_of KX hcd) (hb _ _ _ _ ?_)
  refine wpAny_newFunctionEnv_cells S.kind hkind fun env he s1 x => ?_
  subst he
  refine ⟨lim.keeps x.toInCall.keep, codeAny_func ?_⟩
  obtain ⟨t, ht, hq⟩ := hbody A outer s H vs Q E (hr.deeper _) hsp
  have I : Inv (cxOf CX P w K mg base N qual scope f cdv A outer s H E) [] (start N vs) H s1 := inv_start S hr.hd e0 hl r x
  refine wpAny_mono (ht [] s1 (start N vs) H _ I hq) (fun fl s' hs => ?_) fun e s' hs => hs
  have fin : ∀ {σ' : St} {H' : Hp} {v : V} {u : Value}, Inv (cxOf CX P w K mg base N qual scope f cdv A outer s H E) [] σ' H' s' → RelV v u → Q v H' → CE outer P w H s Q u s' :=
    fun {σ' H' v u} J rv q => ⟨v, H', J.os, J.bare, J.base, J.hok, rv, q⟩
  cases fl with
  | ret u =>
    obtain ⟨v, σ', H', J, rv, q⟩ := hs
    exact fin J rv q
  | next =>
    obtain ⟨σ', H', J, q⟩ := hs
    exact fin (v := V.non) (u := Value.none) J rfl q
  | brk =>
    obtain ⟨_, _, _, q⟩ := hs
    exact False.elim q
  | cont =>
    obtain ⟨_, _, _, q⟩ := hs
    exact False.elim q
end L2
namespace L2
open PySem PySem.Spec PyProof.Rows
section
variable {X : Cx} {x : Str} {p pos : Pos} {e : Expr} {es : List Expr} {t : TA} {id T : String} {r : List V → Hp → VK → Prop}
noncomputable def tCB (r : List V → Hp → VK → Prop) (t : TA) : TE := fun σ H Q => t σ H fun vs H1 => r vs H1 Q
theorem pe_callB (hc : CallR X (.builtin id) r) (hg : Gl X x) (hm : X.mg x = none) (hv : bootBuiltins x = some (.builtin id)) (ha : PA X (e :: es) t) (hn : x ≠ "__name__" := by decide) (hdb : (x == ("__debug__" : Str)) = false := by decide)
    (he : starEach (e :: es) X.env = (false, eval e X.env) :: starEach es X.env := by rfl) (hpl : (backTo pos (starEach es X.env)).any (·.1) = false := by rfl) : PE X (.Call (.Name x p) (e :: es) [] pos) (tCB r t) := by
  intro pins s σ H Q I h
  refine wpAny_Call_Name_kw (ld_blt I hg hm hv ?_ hn hdb)
  exact PyProof.Rows.callWith_builtin1 (thn (ha pos pins s σ H _ I h) fun us s1 ⟨vs, H1, I1, r1, q1⟩ => hc pins s1 σ H1 vs us Q I1 r1 q1) he hpl
end
end L2
namespace HT
open PySem PyProof.Rows
section
open PySem.SeqAt
open PySem.AutoSeq1 (wpAny_loadPart')
open PySem.MeetsSeq PySem.MeetsSeq2 PySem.MeetsSeq3
end
section
variable {prog : Program} {w : World} {A : Around} {E : Value → Shared → Prop} {s : Shared}
noncomputable def sIx (n d : Nat) : Option Int → Nat
  | none => d
  | some v => if v < 0 then (v + (n : Int)).toNat else min v.toNat n
theorem sIx_none (n d : Nat) : sIx n d none = d := rfl
theorem sIx_nat (n d k : Nat) : sIx n d (some (k : Int)) = min k n := by
  show (if (k : Int) < 0 then ((k : Int) + (n : Int)).toNat else min (k : Int).toNat n) = min k n
  rw [if_neg (by omega), Int.toNat_natCast]
theorem clip_eq (v : Int) (n d : Nat) : (if v < 0 then max (v + (n : Int)) 0 else min v (n : Int)) = ((sIx n d (some v) : Nat) : Int) := by
  show (if v < 0 then max (v + (n : Int)) 0 else min v (n : Int)) = (((if v < 0 then (v + (n : Int)).toNat else min v.toNat n) : Nat) : Int)
  by_cases hv : v < 0
  · simp only [if_pos hv]; omega
  · simp only [if_neg hv]; omega
end
end HT
namespace L2
open PySem PySem.Spec PyProof.Rows
noncomputable abbrev TO := St → Hp → (Option Int → Hp → Prop) → Prop
noncomputable def PO (X : Cx) (e : Option Expr) (t : TO) : Prop :=
  ∀ (pins : List (Addr × Obj)) (s : Shared) (σ : St) (H : Hp) (Q : Option Int → Hp → Prop), Inv X pins σ H s → t σ H Q →
    wpAny (model X.prog X.w) X.A (evalPart e X.env) (fun u s' => ∃ o H', Inv X pins σ H' s' ∧ IsPart u o ∧ Q o H') X.xe s
noncomputable def tNoPart : TO := fun _ H Q => Q none H
noncomputable def tPart (t : TE) : TO := fun σ H Q => t σ H fun x H1 => ∃ i, x = .int i ∧ Q (some i) H1
section
variable {X : Cx} {e : Expr} {te : TE} {lo hi : Option Expr} {tl th : TO} {pos p2 : Pos}
theorem po_none : PO X none tNoPart := by
  intro pins s σ H Q I h
  rw [evalPart_none]
  exact wpAny_pure ⟨none, H, I, .none, h⟩
theorem po_some (h : PE X e te) : PO X (some e) (tPart te) := by
  intro pins s σ H Q I hw
  rw [evalPart_some]
  refine thn (h pins s σ H _ I hw) fun u s1 ⟨x, H1, I1, r1, q1⟩ => ?_
  obtain ⟨i, rfl, q⟩ := q1
  obtain ⟨t, rfl⟩ := r1
  exact ⟨some i, H1, I1, .int i t, q⟩
noncomputable def SlR (X : Cx) (r : V → Option Int → Option Int → Hp → VK → Prop) : Prop :=
  ∀ (pins : List (Addr × Obj)) (s : Shared) (σ : St) (H : Hp) (x : V) (v vl vu : Value) (lo hi : Option Int) (sl : Addr) (Q : VK), Inv X pins σ H s → RelV x v → s.heap.IsSliceOf sl vl vu .none → IsPart vl lo → IsPart vu hi → r x lo hi H Q →
    ∃ T id, typeLookup (.type T) "__getitem__" = pure (some (.builtin id)) ∧ s.TypeIs v T ∧ wpAny (model X.prog X.w) X.A (getItem v (.ref sl)) (EP X pins σ Q) X.xe s
noncomputable def tSl (r : V → Option Int → Option Int → Hp → VK → Prop) (te : TE) (tl th : TO) : TE := fun σ H Q => te σ H fun x H1 => tl σ H1 fun l H2 => th σ H2 fun u H3 => r x l u H3 Q
theorem pe_slice {r : V → Option Int → Option Int → Hp → VK → Prop} (hr : SlR X r) (he : PE X e te) (hl : PO X lo tl) (hu : PO X hi th) : PE X (.Subscript e (.Slice lo hi none p2) pos) (tSl r te tl th) := by
  intro pins s σ H Q I h
  refine Subscript_ (thn (he pins s σ H _ I h) fun v s1 ⟨x, H1, I1, r1, q1⟩ => ?_)
  refine wpAny_Slice (thn (hl pins s1 σ H1 _ I1 q1) fun vl s2 ⟨l, H2, I2, pl, q2⟩ => thn (hu pins s2 σ H2 _ I2 q2) fun vu s3 ⟨u, H3, I3, pu, q3⟩ => ?_)
  rw [evalPart_none]
  refine wpAny_pure ?_
  have I4 : Inv X pins σ H3 { s3 with heap := s3.heap.push { cls := .type "slice", data := .fields #[vl, vu, .none] } } := I3.kept (t' := s3.toks) fun b ob q => Heap.get?_push_of_some _ q
  obtain ⟨T, id, hT, ht, hg⟩ := hr pins { s3 with heap := s3.heap.push { cls := .type "slice", data := .fields #[vl, vu, .none] } } σ H3 x v vl vu l u s3.heap.objs.size Q I4 r1 (Heap.IsSliceOf.new ..) pl pu q3
  show wpAny (model X.prog X.w) X.A (subscriptTail e (.Slice lo hi none p2) v (.ref s3.heap.objs.size)) (EP X pins σ Q) X.xe { s3 with heap := s3.heap.push { cls := .type "slice", data := .fields #[vl, vu, .none] } }
  exact tail_any (ops := [.ref s3.heap.objs.size, v]) ht hT hg (by with_unfolding_all rfl)
noncomputable def cutV (xs : List V) (lo hi : Option Int) : List V := (xs.drop (HT.sIx xs.length 0 lo)).take (HT.sIx xs.length xs.length hi - HT.sIx xs.length 0 lo)
theorem cutV_length (xs : List V) (lo hi : Option Int) : (cutV xs lo hi).length ≤ xs.length := by
  unfold cutV
  rw [List.length_take, List.length_drop]
  omega
end
end L2
namespace L2
open PySem PySem.Spec PyProof.Rows
noncomputable def ixN (n : Nat) (i : Int) : Option Nat := if 0 ≤ i then (if i < n then some i.toNat else none) else if -(n : Int) ≤ i then some (i + n).toNat else none
noncomputable def atI {α : Type} (xs : List α) (i : Int) : Option α := (ixN xs.length i).bind fun j => xs[j]?
theorem ixN_seq {n : Nat} {i : Int} {j : Nat} (h : ixN n i = some j) : seqIndex? i n = some j ∧ j < n ∧ -(n : Int) ≤ i ∧ i < n := by
  unfold ixN at h
  by_cases h0 : 0 ≤ i
  · rw [if_pos h0] at h
    by_cases h1 : i < n
    · rw [if_pos h1] at h
      have e : i.toNat = j := Option.some.inj h
      exact ⟨by rw [seqIndex_of h0 h1, e], by omega, by omega, h1⟩
    · rw [if_neg h1] at h; cases h
  · rw [if_neg h0] at h
    by_cases h1 : -(n : Int) ≤ i
    · rw [if_pos h1] at h
      have e : (i + n).toNat = j := Option.some.inj h
      exact ⟨by rw [seqIndex_neg (by omega) h1, e], by omega, h1, by omega⟩
    · rw [if_neg h1] at h; cases h
theorem atI_get {α : Type} {xs : List α} {i : Int} {v : α} (h : atI xs i = some v) : ∃ j, seqIndex? i xs.length = some j ∧ xs[j]? = some v ∧ j < xs.length ∧ -(xs.length : Int) ≤ i ∧ i < xs.length := by
  unfold atI at h
  cases e : ixN xs.length i with
  | none => rw [e] at h; cases h
  | some j =>
    rw [e] at h
    obtain ⟨h1, h2, h3, h4⟩ := ixN_seq e
    exact ⟨j, h1, h, h2, h3, h4⟩
theorem atI_nat {α : Type} {xs : List α} {j : Nat} {v : α} (h : xs[j]? = some v) : atI xs (j : Int) = some v := by
  have hj : j < xs.length := (List.getElem?_eq_some_iff.mp h).1
  have e : ixN xs.length (j : Int) = some j := by
    unfold ixN
    rw [if_pos (by omega), if_pos (by omega)]; simp
  unfold atI; rw [e]; exact h
theorem atI_last {α : Type} (xs : List α) (v : α) : atI (xs ++ [v]) (-1) = some v := by
  have hl : (xs ++ [v]).length = xs.length + 1 := by simp
  have e : ixN (xs ++ [v]).length (-1) = some xs.length := by
    unfold ixN
    rw [hl, if_neg (by decide), if_pos (by omega)]
    congr 1
    omega
  unfold atI
  rw [e]
  show (xs ++ [v])[xs.length]? = some v
  simp
noncomputable def PlainIx (b : Expr) : Prop := ∀ o i, subscripted b false o i = operate [o, i] (getItem o i)
noncomputable def IxR (X : Cx) (r : R2) : Prop :=
  ∀ (value slice : Expr) (pins : List (Addr × Obj)) (s : Shared) (σ : St) (H : Hp) (x y : V) (v u : Value) (Q : VK), Inv X pins σ H s → RelV x v → RelV y u → r x y H Q →
    subscripted slice false v u = operate [v, u] (getItem v u) → wpAny (model X.prog X.w) X.A (subscriptTail value slice v u) (EP X pins σ Q) X.xe s
noncomputable def MtR (X : Cx) (id : String) (r : V → List V → Hp → VK → Prop) : Prop :=
  ∀ (pins : List (Addr × Obj)) (s : Shared) (σ : St) (H : Hp) (x : V) (xs : List V) (v : Value) (us : List Value) (Q : VK), Inv X pins σ H s → RelV x v → Vals xs us → r x xs H Q →
    wpAny (model X.prog X.w) X.A (call (.builtin id) (v :: us)) (EP X pins σ Q) X.xe s
section
variable {X : Cx} {a b : Expr} {ta tb : TE} {pos : Pos}
theorem pe_ix {r : R2} (hr : IxR X r) (ha : PE X a ta) (hb : PE X b tb) (hs : PlainIx b) : PE X (.Subscript a b pos) (tOp r ta tb) := by
  intro pins s σ H Q I h
  exact Subscript_ (binT ha hb I h fun v u s2 x y H2 I2 rx ry q => hr a b pins s2 σ H2 x y v u Q I2 rx ry q (hs _ _))
noncomputable def rIxL (K : PySem.W.Frag) : R2 := fun x y H Q => ∃ p xs i v, x = .ref p ∧ y = .int i ∧ SqL K H p xs ∧ atI xs i = some v ∧ Q v H
noncomputable def rIxT (K : PySem.W.Frag) : R2 := fun x y H Q => ∃ p xs i v, x = .ref p ∧ y = .int i ∧ SqT K H p xs ∧ atI xs i = some v ∧ Q v H
theorem ix_list : IxR X (rIxL X.K) := by
  intro value slice pins s σ H x y v u Q I rx ry h hs
  obtain ⟨p, xs, i, z, rfl, rfl, hq, he, q⟩ := h
  cases rx
  obtain ⟨t, rfl⟩ := ry
  obtain ⟨its, r, pl, hz⟩ := I.list hq
  obtain ⟨j, h1, h2, h3, h4, h5⟩ := atI_get he
  obtain ⟨w, ew, rw'⟩ := r.get h2
  have hl := r.length
  have hn := line63
  have fin : EP X pins σ Q w s := ⟨z, H, I, rw', q⟩
  by_cases h0 : 0 ≤ i
  · have hj : i.toNat = j := by
      rw [seqIndex_of h0 h5] at h1
      exact Option.some.inj h1
    exact item_listR pl.isList h0 (by omega) (by rw [hj]; simpa using ew) fin hs
  · have hj : (i + (its.toArray.size : Int)).toNat = j := by
      rw [seqIndex_neg (by omega) h4] at h1
      rw [List.size_toArray, ← hl]
      exact Option.some.inj h1
    exact subscriptTail_builtinR (x := w) pl.isList.typeIs slot_list_getitem.lookup
      (wpAny_getItem_list_neg (Q := fun r s' => r = w ∧ EP X pins σ Q r s') pl.isList (by omega) (by rw [List.size_toArray] <;> omega) (by omega) (by rw [hj]; simpa using ew) ⟨rfl, fin⟩) hs
theorem ix_tup : IxR X (rIxT X.K) := by
  intro value slice pins s σ H x y v u Q I rx ry h hs
  obtain ⟨p, xs, i, z, rfl, rfl, hq, he, q⟩ := h
  cases rx
  obtain ⟨t, rfl⟩ := ry
  obtain ⟨its, r, pl, hz⟩ := I.tuple hq
  obtain ⟨j, h1, h2, h3, h4, h5⟩ := atI_get he
  obtain ⟨w, ew, rw'⟩ := r.get h2
  have hl := r.length
  have hn := line63
  have fin : EP X pins σ Q w s := ⟨z, H, I, rw', q⟩
  exact subscriptTail_builtinR (x := w) pl.typeIs slot_tuple_getitem.lookup
    (getItem_tuple (j := j) (Q := fun r s' => r = w ∧ EP X pins σ Q r s') pl (by omega) (by omega) (by rw [List.size_toArray, ← hl]; exact h1) (by simpa using ew) ⟨rfl, fin⟩) hs
theorem mapSeq_set (its : List Value) (n j : Nat) (u : Value) : Obj.mapSeq (·.setIfInBounds j u) { cls := .type "list", data := .seq its.toArray n } = { cls := .type "list", data := .seq (its.set j u).toArray n } := by
  simp [Obj.mapSeq]
theorem Inv.lst {pins : List (Addr × Obj)} {σ : St} {H : Hp} {s : Shared} {p : Addr} {xs : List V} (I : Inv X pins σ H s) (h : H p = some (.lst xs)) :
    ∃ (its : List Value) (n : Nat), Vals xs its ∧ s.heap.get? p = some { cls := .type "list", data := .seq its.toArray n } ∧ xs.length ≤ sizeLine := by
  obtain ⟨z, its, n, r, e⟩ := I.hok p _ h
  exact ⟨its, n, r, e, z⟩
theorem Inv.lstUpd {pins : List (Addr × Obj)} {σ : St} {H : Hp} {s : Shared} {p : Addr} {xs ys : List V} {its its' : List Value} {n n' : Nat} {f : Obj → Obj} (I : Inv X pins σ H s) (h : H p = some (.lst xs))
    (ho : s.heap.get? p = some { cls := .type "list", data := .seq its.toArray n }) (hf : f { cls := .type "list", data := .seq its.toArray n } = { cls := .type "list", data := .seq its'.toArray n' }) (r : Vals ys its') (hz : ys.length ≤ sizeLine) (t : Nat) :
    Inv X pins σ (upd H p (.lst ys)) { s with heap := s.heap.update p f, toks := t } := by
  have e : (s.heap.update p f).get? p = some { cls := .type "list", data := .seq its'.toArray n' } := by
    rw [Heap.get?_update_self f ho (by rw [hf] <;> rfl), hf]
  refine I.write (x := p) (e := p) (by rw [h]; trivial) (.inl rfl) (fun b u hb q => (Heap.get?_update_other _ _ (Ne.symm hb)).trans q) ⟨_, e⟩ ?_
  exact ⟨hz, its', n', r, e⟩
noncomputable def rSetL : V → V → V → Hp → (Hp → Prop) → Prop := fun o i v H Q => ∃ p xs k j, o = .ref p ∧ i = .int k ∧ H p = some (.lst xs) ∧ ixN xs.length k = some j ∧ Q (upd H p (.lst (xs.set j v)))
theorem set_list : PSet X rSetL := by
  intro pins s σ H o i v ov iv u Q I ro ri rv h
  obtain ⟨p, xs, k, j, rfl, rfl, hp, hj, q⟩ := h
  cases ro
  obtain ⟨t, rfl⟩ := ri
  obtain ⟨its, n, r, ho, hz⟩ := I.lst hp
  obtain ⟨h1, h2, h3, h4⟩ := ixN_seq hj
  have hl := r.length
  have hn := line63
  have I' : Inv X pins σ (upd H p (.lst (xs.set j v))) { s with heap := s.heap.update p (Obj.mapSeq (·.setIfInBounds j u)) } :=
    I.lstUpd hp ho (mapSeq_set its n j u) (r.set rv j) (by rw [List.length_set]; exact hz) s.toks
  by_cases h0 : 0 ≤ k
  · have hk : k.toNat = j := by
      rw [seqIndex_of h0 h4] at h1
      exact Option.some.inj h1
    exact PySem.W.ki_setAt ho h0 (by omega) (by rw [List.size_toArray, ← hl]; exact h4) (by rw [hk]; exact ⟨_, I', q⟩)
  · have hk : (k + (its.toArray.size : Int)).toNat = j := by
      rw [seqIndex_neg (by omega) h3] at h1
      rw [List.size_toArray, ← hl]
      exact Option.some.inj h1
    exact PySem.W.ki_setBack ho (by omega) (by rw [List.size_toArray, ← hl]; exact h3) (by omega) (by rw [hk]; exact ⟨_, I', q⟩)
theorem slice_bounds (lo hi : Option Int) (n : Nat) : (sliceBounds lo hi none n).1 = ((HT.sIx n 0 lo : Nat) : Int) ∧ (sliceBounds lo hi none n).2.1 = ((HT.sIx n n hi : Nat) : Int) ∧ (sliceBounds lo hi none n).2.2 = 1 := by
  refine ⟨?_, ?_, rfl⟩
  · cases lo with
    | none => simp [sliceBounds, HT.sIx]
    | some i =>
      simp only [sliceBounds, HT.sIx, Option.getD_none, show (1 : Int) > 0 by decide, if_true]
      by_cases h : i < 0
      · simp only [h, if_true] <;> omega
      · simp only [h, if_false] <;> omega
  · cases hi with
    | none => simp [sliceBounds, HT.sIx]
    | some i =>
      simp only [sliceBounds, HT.sIx, Option.getD_none, show (1 : Int) > 0 by decide, if_true]
      by_cases h : i < 0
      · simp only [h, if_true] <;> omega
      · simp only [h, if_false] <;> omega
theorem slicePick_cut (its : List Value) (lo hi : Option Int) : slicePick its.toArray lo hi none = ((its.drop (HT.sIx its.length 0 lo)).take (HT.sIx its.length its.length hi - HT.sIx its.length 0 lo)).toArray := by
  obtain ⟨h1, h2, h3⟩ := slice_bounds lo hi its.toArray.size
  unfold slicePick
  rw [h1, h2, h3]
  simp only [sliceRange_one, pick_run, List.size_toArray] <;> rfl
noncomputable def rSlL (K : PySem.W.Frag) : V → Option Int → Option Int → Hp → VK → Prop := fun x lo hi H Q => ∃ a xs, x = .ref a ∧ SqL K H a xs ∧ ∀ p, H p = none → Q (.ref p) (upd H p (.lst (cutV xs lo hi)))
theorem sl_list : SlR X (rSlL X.K) := by
  intro pins s σ H x v vl vu lo hi sl Q I rx hs pl pu h
  obtain ⟨a, xs, rfl, hx, q⟩ := h
  cases rx
  obtain ⟨its, r, ht, hz⟩ := I.list hx
  have hlen := r.length
  refine ⟨"list", _, slot_list_getitem.lookup, ht.isList.typeIs, ?_⟩
  refine wpAny_getItem_list_slice ht.isList hs pl pu .none (by simp) ?_ (by rw [List.size_toArray] <;> omega)
  rw [slicePick_cut, ← hlen]
  refine ⟨.ref s.heap.objs.size, _, I.laid (t' := s.toks) (o := .lst (cutV xs lo hi)) (fun b ob q => Heap.get?_push_of_some _ q) (Nat.le_refl _) ?_, rfl, q _ (I.hok.fresh (Nat.le_refl _))⟩
  exact ⟨Nat.le_trans (cutV_length xs lo hi) hz, _, 0, (r.drop (HT.sIx xs.length 0 lo)).take (HT.sIx xs.length xs.length hi - HT.sIx xs.length 0 lo), Heap.get?_push_size _ rfl⟩
noncomputable def flatV : V → Bool
  | .non => true
  | .bl _ => true
  | .int _ => true
  | .str _ => true
  | _ => false
noncomputable def eqV : V → V → Bool
  | .non, .non => true
  | .bl a, .bl b => a == b
  | .bl a, .int b => (if a then 1 else 0) == b
  | .int a, .bl b => a == (if b then 1 else 0)
  | .int a, .int b => a == b
  | .str a, .str b => a == b
  | _, _ => false
theorem eqAt_V {A : Around} {s : Shared} {y x : V} {u v : Value} (ry : RelV y u) (rx : RelV x v) (fy : flatV y = true) (fx : flatV x = true) : SeqAt.EqAt A s u v (eqV y x) := by
  cases y with
  | non =>
    cases ry
    cases x with
    | non => cases rx; exact SeqAt.EqAt.same _
    | bl b => cases rx; exact SeqAt.EqAt.none_bool b
    | int b => obtain ⟨t, rfl⟩ := rx; exact SeqAt.EqAt.none_int b t
    | str b => obtain ⟨t, rfl⟩ := rx; exact SeqAt.EqAt.none_str b t
    | _ => exact absurd (show false = true from fx) Bool.false_ne_true
  | bl a =>
    cases ry
    cases x with
    | non => cases rx; exact SeqAt.EqAt.bool_none a
    | bl b => cases rx; exact SeqAt.EqAt.bool_bool a b
    | int b => obtain ⟨t, rfl⟩ := rx; exact SeqAt.EqAt.bool_int a b t
    | str b => obtain ⟨t, rfl⟩ := rx; exact SeqAt.EqAt.bool_str a b t
    | _ => exact absurd (show false = true from fx) Bool.false_ne_true
  | int a =>
    obtain ⟨t', rfl⟩ := ry
    cases x with
    | non => cases rx; exact SeqAt.EqAt.int_none a t'
    | bl b => cases rx; exact SeqAt.EqAt.int_bool a t' b
    | int b => obtain ⟨t, rfl⟩ := rx; exact SeqAt.EqAt.int_int a t' b t
    | str b => obtain ⟨t, rfl⟩ := rx; exact SeqAt.EqAt.int_str a t' b t
    | _ => exact absurd (show false = true from fx) Bool.false_ne_true
  | str a =>
    obtain ⟨t', rfl⟩ := ry
    cases x with
    | non => cases rx; exact SeqAt.EqAt.str_none a t'
    | bl b => cases rx; exact SeqAt.EqAt.str_bool a t' b
    | int b => obtain ⟨t, rfl⟩ := rx; exact SeqAt.EqAt.str_int a t' b t
    | str b => obtain ⟨t, rfl⟩ := rx; exact SeqAt.EqAt.str_str a t' b t
    | _ => exact absurd (show false = true from fx) Bool.false_ne_true
  | _ => exact absurd (show false = true from fy) Bool.false_ne_true
noncomputable def eqU (x : V) (u : Value) : Bool := match u with
  | .none => eqV .non x
  | .bool b => eqV (.bl b) x
  | .int i _ => eqV (.int i) x
  | .str z _ => eqV (.str z) x
  | _ => false
theorem eqU_of {x y : V} {u : Value} (r : RelV y u) (f : flatV y = true) : eqU x u = eqV y x := by
  cases y with
  | non => cases r; rfl
  | bl b => cases r; rfl
  | int i => obtain ⟨t, rfl⟩ := r; rfl
  | str z => obtain ⟨t, rfl⟩ := r; rfl
  | _ => exact absurd (show false = true from f) Bool.false_ne_true
theorem any_eqU {x : V} : ∀ {xs : List V} {us : List Value}, Vals xs us → xs.all flatV = true → us.any (eqU x) = xs.any fun y => eqV y x
  | _, _, .nil, _ => rfl
  | y :: xs, u :: us, .cons r t, f => by
    rw [List.all_cons, Bool.and_eq_true] at f
    rw [List.any_cons, List.any_cons, eqU_of r f.1, any_eqU t f.2]
theorem mem_eqAt {A : Around} {s : Shared} {x : V} {v : Value} (rx : RelV x v) (fx : flatV x = true) : ∀ {xs : List V} {us : List Value}, Vals xs us → xs.all flatV = true → ∀ u ∈ us, SeqAt.EqAt A s u v (eqU x u)
  | _, _, .nil, _ => fun u hu => by cases hu
  | y :: xs, u :: us, .cons r t, f => fun u' hu => by
    rw [List.all_cons, Bool.and_eq_true] at f
    rcases List.mem_cons.mp hu with rfl | hu
    · rw [eqU_of r f.1]; exact eqAt_V r rx f.1 fx
    · exact mem_eqAt rx fx t f.2 u' hu
noncomputable def inV (x : V) (xs : List V) : Bool := xs.any fun y => eqV y x
noncomputable def rIn (K : PySem.W.Frag) (neg : Bool) : R2 := fun x y H Q => ∃ p xs, y = .ref p ∧ (SqL K H p xs ∨ SqT K H p xs) ∧ flatV x = true ∧ xs.all flatV = true ∧ Q (.bl (if neg then !inV x xs else inV x xs)) H
theorem op_in_seq : OpR X (compareOp .In) (rIn X.K false) := by
  intro pins s σ H x y v u Q I rx ry h
  obtain ⟨p, xs, rfl, hq, fx, fs, q⟩ := h
  cases ry
  rcases hq with hq | hq
  · obtain ⟨its, r, pl, hz⟩ := I.list hq
    refine SeqAt.in_listAt (eqU x) pl.isList (fun w hw => mem_eqAt rx fx r fs w (by simpa using hw)) ⟨.bl _, H, I, rfl, ?_⟩
    rw [show its.toArray.any (eqU x) = its.any (eqU x) by simp, any_eqU r fs]
    exact q
  · obtain ⟨its, r, pl, hz⟩ := I.tuple hq
    refine SeqAt.in_tupleAt (eqU x) pl (fun w hw => mem_eqAt rx fx r fs w (by simpa using hw)) ⟨.bl _, H, I, rfl, ?_⟩
    rw [show its.toArray.any (eqU x) = its.any (eqU x) by simp, any_eqU r fs]
    exact q
theorem call_len_seq : CallR X (.builtin "len") (fun xs H Q => ∃ p ys, xs = [.ref p] ∧ (SqL X.K H p ys ∨ SqT X.K H p ys) ∧ Q (.int ys.length) H) := by
  intro pins s σ H xs us Q I r h
  obtain ⟨p, ys, rfl, hq, q⟩ := h
  obtain ⟨u, rfl, rx⟩ := vals1 r
  cases rx
  have hn := line63
  rcases hq with hq | hq
  · obtain ⟨its, r', pl, hz⟩ := I.list hq
    have hlen := r'.length
    exact Calls.call_len_list pl.isList (by simp only [List.size_toArray] <;> omega) ⟨.int ys.length, H, I.tok _, ⟨s.toks + 1, by rw [List.size_toArray, hlen]⟩, q⟩
  · obtain ⟨its, r', pl, hz⟩ := I.tuple hq
    have hlen := r'.length
    exact len_tuple pl (by simp only [List.size_toArray] <;> omega) ⟨.int ys.length, H, I.tok _, ⟨s.toks + 1, by rw [List.size_toArray, hlen]⟩, q⟩
noncomputable def tyV (K : PySem.W.Frag) (T : String) (x : V) (H : Hp) : Prop := match x with
  | .str _ => T = "str"
  | .int _ => T = "int"
  | .ref p => (T = "list" ∧ ∃ xs, SqL K H p xs) ∨ (T = "tuple" ∧ ∃ o, K.lookup p = some o ∧ o.cls = .type "tuple" ∧ o.dict = none) ∨
      (T = "dict" ∧ ((∃ kvs, H p = some (.dK kvs)) ∨ ∃ kvs, H p = some (.dT kvs))) ∨ (T = "set" ∧ ∃ S n, H p = some (.set S n))
  | _ => False
theorem tyV_is {pins : List (Addr × Obj)} {σ : St} {H : Hp} {s : Shared} {T : String} {x : V} {v : Value} (I : Inv X pins σ H s) (r : RelV x v) (ty : tyV X.K T x H) :
    s.TypeIs v T ∧ ∀ a, v = .ref a → ∃ ob, s.heap.get? a = some ob ∧ ob.dict = none := by
  cases x with
  | str z =>
    obtain ⟨t, rfl⟩ := r
    cases (show T = "str" from ty)
    exact ⟨typeIs_str s z t, fun _ e => nomatch e⟩
  | int i =>
    obtain ⟨t, rfl⟩ := r
    cases (show T = "int" from ty)
    exact ⟨typeIs_int s i t, fun _ e => nomatch e⟩
  | ref p =>
    cases r
    rcases ty with ⟨rfl, xs, hq⟩ | ⟨rfl, o, hk, hc, hd⟩ | ⟨rfl, hk⟩ | ⟨rfl, S, n, hk⟩
    · obtain ⟨its, _, pl, _⟩ := I.list hq
      refine ⟨pl.isList.typeIs, fun a e => ?_⟩
      cases e
      obtain ⟨o, n, e, c, hd, _⟩ := pl
      exact ⟨o, e, hd⟩
    · refine ⟨⟨o, I.kIn p o hk, hc⟩, fun a e => ?_⟩
      cases e
      exact ⟨o, I.kIn _ o hk, hd⟩
    · have z : ∃ o, s.heap.get? p = some o ∧ o.ExactDict := by
        rcases hk with ⟨kvs, hk⟩ | ⟨kvs, hk⟩
        · obtain ⟨_, _, _, _, o, _, _, e, ex, _⟩ := I.hok p _ hk
          exact ⟨o, e, ex⟩
        · obtain ⟨_, _, _, _, o, _, _, e, ex, _⟩ := I.hok p _ hk
          exact ⟨o, e, ex⟩
      obtain ⟨o, e, ex⟩ := z
      refine ⟨⟨o, e, ex.1⟩, fun a e2 => ?_⟩
      cases e2
      exact ⟨o, e, ex.2.1⟩
    · obtain ⟨o, _, _, _, e, ex, _⟩ := I.hok p _ hk
      refine ⟨⟨o, e, ex.1⟩, fun a e2 => ?_⟩
      cases e2
      exact ⟨o, e, ex.2.1⟩
  | _ => exact False.elim ty
noncomputable def tBM0 (K : PySem.W.Frag) (T : String) (r : V → List V → Hp → VK → Prop) (to : TE) : TE := fun σ H Q => to σ H fun x H1 => tyV K T x H1 ∧ r x [] H1 Q
noncomputable def tBM (K : PySem.W.Frag) (T : String) (r : V → List V → Hp → VK → Prop) (to : TE) (t : TA) : TE := fun σ H Q => to σ H fun x H1 => tyV K T x H1 ∧ t σ H1 fun xs H2 => r x xs H2 Q
variable {o e : Expr} {es : List Expr} {to : TE} {t : TA} {name : Str} {apos cpos : Pos} {T id : String} {r : V → List V → Hp → VK → Prop}
theorem pe_bm0 (pa : PlainAttrs T) (slot : Slot T name id) (hty : typeOf (.builtin id) = pure (.type "method_descriptor")) (hm : MtR X id r) (ho : PE X o to)
    (hbase : attributeBase o name X.env (eval o X.env) = eval o X.env := by rfl) (hline : (apos.endLine == cpos.line) = true := by rfl) : PE X (.Call (.Attribute o name apos) [] [] cpos) (tBM0 X.K T r to) := by
  intro pins s σ H Q I h
  refine wpAny_Call_method0_late hbase hline (thn (ho pins s σ H _ I h) fun v s1 ⟨x, H1, I1, r1, ty, q1⟩ => ?_)
  obtain ⟨h1, h2⟩ := tyV_is I1 r1 ty
  exact ⟨T, id, pa, slot, hty, h1, h2, Calls.callWith_builtin rfl (PySem.evalArgs_none (hm pins s1 σ H1 x [] v [] Q I1 r1 .nil q1))⟩
theorem pe_bm (pa : PlainAttrs T) (slot : Slot T name id) (hty : typeOf (.builtin id) = pure (.type "method_descriptor")) (hm : MtR X id r) (ho : PE X o to) (ha : PA X (e :: es) t)
    (hbase : attributeBase o name X.env (eval o X.env) = eval o X.env := by rfl)
    (hfew : ((backTo cpos (starEach (e :: es) X.env)).all (fun x => !x.1) && (backToKw cpos (keywordEach [] X.env)).all (fun x => x.1.isSome)
      && decide ((e :: es).length + ([] : List Keyword).length + (if ([] : List Keyword).isEmpty then 0 else 1) < 30)) = true := by rfl)
    (hline : (apos.endLine == cpos.line) = true := by rfl) (hs : starEach (e :: es) X.env = (false, eval e X.env) :: starEach es X.env := by rfl) (hplain : (backTo cpos (starEach es X.env)).any (·.1) = false := by rfl) :
    PE X (.Call (.Attribute o name apos) (e :: es) [] cpos) (tBM X.K T r to t) := by
  intro pins s σ H Q I h
  refine wpAny_Call_method_late hbase hfew hline rfl (thn (ho pins s σ H _ I h) fun v s1 ⟨x, H1, I1, r1, ty, q1⟩ => ?_)
  obtain ⟨h1, h2⟩ := tyV_is I1 r1 ty
  refine ⟨T, id, pa, slot, hty, h1, h2, ?_⟩
  have hA := ha cpos pins s1 σ H1 _ I1 q1
  rw [hs] at hA ⊢
  refine Calls.callWith_builtin (by show (false || (backTo cpos (starEach es X.env)).any (·.1)) = false; rw [hplain] <;> rfl) (Calls.evalArgs_plain ?_)
  exact thn hA fun us s2 ⟨vs, H2, I2, r2, q2⟩ => hm pins s2 σ H2 x vs v us Q I2 r1 r2 q2
end
end L2
namespace L2
open PySem PySem.Spec PyProof.Rows
noncomputable def MtM (X : Cx) (id : String) (r : V → List V → Hp → VK → Prop) : Prop :=
  ∀ (pins : List (Addr × Obj)) (s : Shared) (σ : St) (H : Hp) (x : V) (xs : List V) (v : Value) (us : List Value) (Q : VK), Inv X pins σ H s → RelV x v → Vals xs us → r x xs H Q →
    wpAny (model X.prog X.w) X.A (call (.builtin id) (v :: us)) (EP X pins σ Q) X.xe s
theorem Vals.one : ∀ {x : V} {us : List Value}, Vals [x] us → ∃ u, us = [u] ∧ RelV x u
  | _, _, .cons r .nil => ⟨_, rfl, r⟩
theorem Vals.zero : ∀ {us : List Value}, Vals [] us → us = []
  | _, .nil => rfl
theorem Vals.dropLast {xs : List V} {us : List Value} (h : Vals xs us) : Vals xs.dropLast us.dropLast := by
  induction h with
  | nil => exact .nil
  | cons r t ih =>
    cases t with
    | nil => exact .nil
    | cons q t' => exact .cons r ih
theorem Vals.eraseIdx : ∀ {xs : List V} {us : List Value} (i : Nat), Vals xs us → Vals (xs.eraseIdx i) (us.eraseIdx i)
  | _, _, _, .nil => .nil
  | _, _, 0, .cons _ t => t
  | _, _, i + 1, .cons r t => .cons r (Vals.eraseIdx i t)
theorem Vals.reverse {xs : List V} {us : List Value} (h : Vals xs us) : Vals xs.reverse us.reverse := by
  induction h with
  | nil => exact .nil
  | cons r t ih => rw [List.reverse_cons, List.reverse_cons]; exact Vals.append ih (.cons r .nil)
theorem Vals.rep {xs : List V} {us : List Value} (h : Vals xs us) : ∀ k : Nat, Vals (List.replicate k xs).flatten (List.replicate k us).flatten
  | 0 => .nil
  | k + 1 => by
    rw [List.replicate_succ, List.replicate_succ, List.flatten_cons, List.flatten_cons]
    exact Vals.append h (Vals.rep h k)
theorem erase_last {α : Type} (l : List α) : l.eraseIdx (l.length - 1) = l.dropLast := by
  induction l with
  | nil => rfl
  | cons a r ih =>
    cases r with
    | nil => rfl
    | cons b r =>
      have e : (a :: b :: r).length - 1 = ((b :: r).length - 1) + 1 := by
        have h1 : (a :: b :: r).length = r.length + 2 := rfl
        have h2 : (b :: r).length = r.length + 1 := rfl
        omega
      rw [e, List.eraseIdx_cons_succ, ih]
      all_goals rfl
theorem foldl_rep (its : List Value) : ∀ (k : Nat) (acc : List Value),
    List.foldl (fun x1 x2 => x1 ++ x2) acc.toArray (List.replicate k its.toArray) = (acc ++ (List.replicate k its).flatten).toArray
  | 0, acc => by simp
  | k + 1, acc => by
    have e : acc.toArray ++ its.toArray = (acc ++ its).toArray := by simp
    have e2 : (acc ++ its) ++ (List.replicate k its).flatten = acc ++ (List.replicate (k + 1) its).flatten := by
      rw [List.replicate_succ, List.flatten_cons, List.append_assoc]
    rw [← e2, ← foldl_rep its k (acc ++ its), ← e, List.replicate_succ, List.foldl_cons]
section
variable {X : Cx} {pins : List (Addr × Obj)} {σ : St} {H : Hp} {s : Shared} {l b : Addr} {xs ys zs : List V}
theorem Inv.lset {its its' : List Value} {n : Nat} {f : Array Value → Array Value} {t' : Nat} (I : Inv X pins σ H s) (hH : H l = some (.lst xs))
    (e : s.heap.get? l = some { cls := .type "list", data := .seq its.toArray n }) (hf : f its.toArray = its'.toArray) (hv : Vals ys its') (hz : ys.length ≤ sizeLine) :
    Inv X pins σ (upd H l (.lst ys)) { s with heap := s.heap.update l (Obj.mapSeq f), toks := t' } := by
  have q := PySem.IsL.update e f
  rw [hf] at q
  refine I.write (x := l) (e := l) (by rw [hH]; exact trivial) (.inl rfl) (fun b' u hb hu => (Heap.get?_update_other s.heap (Obj.mapSeq f) (Ne.symm hb)).trans hu) ⟨_, q⟩ ?_
  exact ⟨hz, its', _, hv, q⟩
theorem Inv.lnew {its : List Value} {t' : Nat} (I : Inv X pins σ H s) (hv : Vals ys its) (hz : ys.length ≤ sizeLine) :
    Inv X pins σ (upd H s.heap.objs.size (.lst ys)) { s with heap := s.heap.push { cls := .type "list", data := .seq its.toArray }, toks := t' } :=
  I.laid (fun _ _ q => Heap.get?_push_of_some _ q) (Nat.le_refl _) ⟨hz, its, 0, hv, Heap.get?_push_size _ rfl⟩
theorem Inv.fresh (I : Inv X pins σ H s) : H s.heap.objs.size = none := I.hok.fresh (Nat.le_refl _)
theorem Inv.lstM (I : Inv X pins σ H s) (hH : H l = some (.lst xs)) : xs.length ≤ sizeLine ∧ ∃ (its : List Value) (n : Nat), Vals xs its ∧ xs.length = its.length ∧ s.heap.get? l = some { cls := .type "list", data := .seq its.toArray n } := by
  obtain ⟨z, its, n, r, e⟩ := I.hok l _ hH
  exact ⟨z, its, n, r, r.length, e⟩
theorem notLongL {n : Nat} (h : n ≤ sizeLine) : Builtin.List.listTooLong n = false := by
  unfold Builtin.List.listTooLong
  exact decide_eq_false (by omega)
end
section
variable {X : Cx}
noncomputable def rAppend : V → List V → Hp → VK → Prop := fun x vs H Q => ∃ l xs y, x = .ref l ∧ vs = [y] ∧ H l = some (.lst xs) ∧ xs.length < sizeLine ∧ Q .non (upd H l (.lst (xs ++ [y])))
theorem mt_append : MtM X "list.append" rAppend := by
  intro pins s σ H x vs v us Q I rx rv h
  obtain ⟨l, xs, y, rfl, rfl, hH, hz, q⟩ := h
  cases rx
  obtain ⟨u, rfl, ru⟩ := rv.one
  obtain ⟨z, its, n, r, hl, e⟩ := I.lstM hH
  refine call_meets F.slot_list_append ⟨_, e, rfl⟩ F.entry_list_append (F.args_list_append_2 _ _) (PySem.list_append l its.toArray n u (by rw [List.size_toArray]; omega)) ⟨e, ?_⟩
  refine ⟨.non, _, I.lset (its' := its ++ [u]) hH e (by simp) (r.append (.cons ru .nil)) ?_, rfl, q⟩
  rw [List.length_append, List.length_singleton]
  omega
noncomputable def rExtend : V → List V → Hp → VK → Prop := fun x vs H Q => ∃ l b xs zs, x = .ref l ∧ vs = [.ref b] ∧ H l = some (.lst xs) ∧ H b = some (.lst zs) ∧ xs.length + zs.length ≤ sizeLine ∧ Q .non (upd H l (.lst (xs ++ zs)))
theorem mt_extend : MtM X "list.extend" rExtend := by
  intro pins s σ H x vs v us Q I rx rv h
  obtain ⟨l, b, xs, zs, rfl, rfl, hH, hB, hz, q⟩ := h
  cases rx
  obtain ⟨u, rfl, ru⟩ := rv.one
  cases ru
  obtain ⟨z, its, n, r, hl, e⟩ := I.lstM hH
  obtain ⟨z2, its2, n2, r2, hl2, e2⟩ := I.lstM hB
  have hsz : its.toArray.size + its2.toArray.size ≤ sizeLine := by rw [List.size_toArray, List.size_toArray]; omega
  have hlong : ¬ (!its.toArray.isEmpty && Builtin.List.listTooLong (its.toArray.size + its2.toArray.size)) = true := by
    rw [notLongL hsz, Bool.and_false]
    exact Bool.false_ne_true
  refine call_meets F.slot_list_extend ⟨_, e, rfl⟩ F.entry_list_extend (F.args_list_extend_2 _ _)
    (AutoSeq1.list_extend_list_list_0 l its.toArray n b its2.toArray n2 hlong (by rw [List.size_toArray]; omega) (by omega)) ⟨e, e2, ?_⟩
  refine ⟨.non, _, I.lset (its' := its ++ its2) hH e (by simp) (r.append r2) ?_, rfl, q⟩
  rw [List.length_append]
  omega
noncomputable def rPop : V → List V → Hp → VK → Prop := fun x vs H Q => ∃ l xs y, x = .ref l ∧ vs = [] ∧ H l = some (.lst xs) ∧ xs[xs.length - 1]? = some y ∧ Q y (upd H l (.lst xs.dropLast))
theorem mt_pop : MtM X "list.pop" rPop := by
  intro pins s σ H x vs v us Q I rx rv h
  obtain ⟨l, xs, y, rfl, rfl, hH, hy, q⟩ := h
  cases rx
  have hus := rv.zero
  subst hus
  obtain ⟨z, its, n, r, hl, e⟩ := I.lstM hH
  obtain ⟨u, hu, ru⟩ := r.get hy
  have hy' : its.toArray[its.toArray.size - 1]? = some u := by
    show its.toArray[its.length - 1]? = some u
    rw [← Array.getElem?_toList, ← hl]
    exact hu
  refine call_meets F.slot_list_pop ⟨_, e, rfl⟩ F.entry_list_pop (F.args_list_pop_1 _) (MeetsSeq.list_pop_last l its.toArray n u hy' (by rw [List.size_toArray]; omega)) ⟨e, ?_⟩
  refine ⟨y, _, I.lset (its' := its.dropLast) hH e ?_ r.dropLast ?_, ru, q⟩
  · show its.toArray.eraseIdxIfInBounds (its.toArray.size - 1) = its.dropLast.toArray
    rw [List.size_toArray, List.eraseIdxIfInBounds_toArray, erase_last]
  · rw [List.length_dropLast]
    omega
noncomputable def rCat : R2 := fun x y H Q => ∃ l b xs zs, x = .ref l ∧ y = .ref b ∧ H l = some (.lst xs) ∧ H b = some (.lst zs) ∧ xs.length + zs.length ≤ sizeLine ∧ ∀ p, H p = none → Q (.ref p) (upd H p (.lst (xs ++ zs)))
theorem op_cat : OpR X (binaryOp .Add) rCat := by
  intro pins s σ H x y v u Q I rx ry h
  obtain ⟨l, b, xs, zs, rfl, rfl, hH, hB, hz, q⟩ := h
  cases rx
  cases ry
  obtain ⟨z, its, n, r, hl, e⟩ := I.lstM hH
  obtain ⟨z2, its2, n2, r2, hl2, e2⟩ := I.lstM hB
  refine PySem.P.add_list e e2 ?_ (by rw [List.size_toArray, List.size_toArray]; omega)
  have ea : its.toArray ++ its2.toArray = (its ++ its2).toArray := by simp
  rw [ea]
  exact ⟨.ref _, _, I.lnew (t' := s.toks) (r.append r2) (by rw [List.length_append]; omega), rfl, q _ I.fresh⟩
noncomputable def rRep : R2 := fun x y H Q => ∃ l k xs, x = .ref l ∧ y = .int k ∧ H l = some (.lst xs) ∧ -(2 ^ 63) ≤ k ∧ k < 2 ^ 63 ∧ xs.length * k.toNat ≤ sizeLine ∧
  ∀ p, H p = none → Q (.ref p) (upd H p (.lst (List.replicate k.toNat xs).flatten))
theorem len_rep {α : Type} (xs : List α) (k : Nat) : (List.replicate k xs).flatten.length = k * xs.length := by
  induction k with
  | zero => simp
  | succ k ih => rw [List.replicate_succ, List.flatten_cons, List.length_append, ih, Nat.succ_mul, Nat.add_comm]
theorem op_rep : OpR X (binaryOp .Mult) rRep := by
  intro pins s σ H x y v u Q I rx ry h
  obtain ⟨l, k, xs, rfl, rfl, hH, h1, h2, hz, q⟩ := h
  cases rx
  obtain ⟨t, rfl⟩ := ry
  obtain ⟨z, its, n, r, hl, e⟩ := I.lstM hH
  have hlen : its.toArray.size * k.toNat ≤ sizeLine := by rw [List.size_toArray, ← hl]; exact hz
  have hcap : ¬ its.toArray.size * k.toNat > (2 ^ 63 - 1) / 8 := by
    have : (sizeLine : Nat) ≤ (2 ^ 63 - 1) / 8 := by decide
    omega
  have hfit : ¬ (!Builtin.List.listFitsIndex k) = true := by
    rw [fitsIndex_both h1 h2]
    exact Bool.false_ne_true
  have hlong : ¬ Builtin.List.listTooLong (its.toArray.size * k.toNat) = true := by
    rw [notLongL hlen]
    exact Bool.false_ne_true
  have hnew : List.foldl (fun x1 x2 => x1 ++ x2) #[] (List.replicate (if its.toArray.isEmpty = true then 0 else k.toNat) its.toArray) = (List.replicate k.toNat its).flatten.toArray := by
    have f0 : ∀ m : Nat, List.foldl (fun x1 x2 => x1 ++ x2) #[] (List.replicate m its.toArray) = (List.replicate m its).flatten.toArray := fun m => by
      have := foldl_rep its m []
      rw [List.nil_append] at this
      exact this
    rw [f0]
    cases its with
    | nil => simp
    | cons a r' => rw [if_neg (by simp)]
  refine wpAny_binaryOp_repeat_ref (T := "list") (U := "int") (by decide) ⟨_, e, rfl⟩ (fun s' => typeIs_int s' k t) noFill_list_mul F.fills_int_mul F.slot_int_rmul repeat_list F.slot_int_index.lookup
    (call_meets F.slot_int_rmul (typeIs_int s k t) F.entry_int_rmul (F.args_int_rmul_2 _ _) (int___rmul___int_list k t l its.toArray n)
      ⟨e, rfl, ⟨_, e, rfl⟩, call_meets F.slot_list_mul ⟨_, e, rfl⟩ F.entry_list_mul (F.args_list_mul_2 _ _) (AutoListH.list___mul___list_int_3 l its.toArray n k t hfit hcap hlong) ⟨e, ?_⟩⟩)
  rw [hnew]
  exact ⟨.ref _, _, I.lnew (t' := s.toks) (r.rep k.toNat) (by rw [len_rep, Nat.mul_comm]; exact hz), rfl, q _ I.fresh⟩
end
section
variable {prog : Program} {w : World} {A : Around} {E : Value → Shared → Prop} {s : Shared}
end
section
variable {X : Cx}
end
end L2
namespace L2
open PySem PySem.Spec PyProof.Rows
theorem Vals.ints : ∀ {ns : List Int} {us : List Value}, Vals (ns.map V.int) us → IntsAre us ns
  | [], us, h => by
    rw [List.map_nil] at h
    cases h
    exact IntsAre.nil
  | n :: ns, us, h => by
    rw [List.map_cons] at h
    cases h with
    | cons r t =>
      obtain ⟨k, rfl⟩ := r
      exact IntsAre.cons n k (Vals.ints t)
theorem Vals.strs : ∀ {xs : List Str} {us : List Value}, Vals (xs.map V.str) us → StrsAre us xs
  | [], us, h => by
    rw [List.map_nil] at h
    cases h
    exact StrsAre.nil
  | x :: xs, us, h => by
    rw [List.map_cons] at h
    cases h with
    | cons r t =>
      obtain ⟨k, rfl⟩ := r
      exact StrsAre.cons x k (Vals.strs t)
theorem Vals.ref1 {a : Addr} {us : List Value} (r : Vals [V.ref a] us) : us = [Value.ref a] := by
  cases r with
  | cons r t =>
    cases t
    cases r
    rfl
section
variable {prog : Program} {w : World} {A : Around} {E : Value → Shared → Prop} {s : Shared} {l : Addr} {its : List Value} {ns : List Int} {Q : Value → Shared → Prop}
theorem max_raw (hh : A.handled = none) (hl : s.heap.IsList l its.toArray) (hi : IntsAre its ns) (hne : 0 < ns.length)
    (h : ∀ h' tk M t', (∀ b o, s.heap.get? b = some o → h'.get? b = some o) → M ∈ ns → (∀ a, a ∈ ns → a ≤ M) → Q (.int M t') { s with heap := h', toks := tk }) : wpAny (model prog w) A (call (.builtin "max") [.ref l]) Q E s := by
  obtain ⟨xs, e⟩ := hi.allInts.items
  have hn : numsOf (intItems xs).toList = ns := by rw [← e]; exact hi.numsOf
  rw [nums_intItems] at hn
  subst hn
  rw [e] at hl
  have hsz : 0 < xs.size := by simpa using hne
  refine PySem.max_intList hh hl hsz fun v h' tk hv hk => ?_
  obtain ⟨t, rfl⟩ := intItems_at hv
  obtain ⟨h1, h2⟩ := argBest_gt (numAt xs) (xs.size - 1)
  refine h h' tk _ t hk ?_ fun a ha => ?_
  · rw [numAt_eq]; exact PySem.getD_mem (by rw [List.length_map, Array.length_toList]; omega)
  · obtain ⟨j, hj, rfl⟩ := mem_getD ha
    rw [List.length_map, Array.length_toList] at hj
    rw [← numAt_eq]; exact h2 j (by omega)
theorem min_raw (hh : A.handled = none) (hl : s.heap.IsList l its.toArray) (hi : IntsAre its ns) (hne : 0 < ns.length)
    (h : ∀ h' tk M t', (∀ b o, s.heap.get? b = some o → h'.get? b = some o) → M ∈ ns → (∀ a, a ∈ ns → M ≤ a) → Q (.int M t') { s with heap := h', toks := tk }) : wpAny (model prog w) A (call (.builtin "min") [.ref l]) Q E s := by
  obtain ⟨xs, e⟩ := hi.allInts.items
  have hn : numsOf (intItems xs).toList = ns := by rw [← e]; exact hi.numsOf
  rw [nums_intItems] at hn
  subst hn
  rw [e] at hl
  have hsz : 0 < xs.size := by simpa using hne
  refine PySem.min_intList hh hl hsz fun v h' tk hv hk => ?_
  obtain ⟨t, rfl⟩ := intItems_at hv
  obtain ⟨h1, h2⟩ := argBest_lt (numAt xs) (xs.size - 1)
  refine h h' tk _ t hk ?_ fun a ha => ?_
  · rw [numAt_eq]; exact PySem.getD_mem (by rw [List.length_map, Array.length_toList]; omega)
  · obtain ⟨j, hj, rfl⟩ := mem_getD ha
    rw [List.length_map, Array.length_toList] at hj
    rw [← numAt_eq]; exact h2 j (by omega)
end
section
variable {X : Cx}
noncomputable def rMax (K : PySem.W.Frag) : List V → Hp → VK → Prop := fun vs H Q => ∃ (a : Addr) (ns : List Int), vs = [V.ref a] ∧ SqL K H a (ns.map V.int) ∧ 0 < ns.length ∧ ∀ m, m ∈ ns → (∀ y, y ∈ ns → y ≤ m) → Q (.int m) H
noncomputable def rMin (K : PySem.W.Frag) : List V → Hp → VK → Prop := fun vs H Q => ∃ (a : Addr) (ns : List Int), vs = [V.ref a] ∧ SqL K H a (ns.map V.int) ∧ 0 < ns.length ∧ ∀ m, m ∈ ns → (∀ y, y ∈ ns → m ≤ y) → Q (.int m) H
theorem cr_max (hc : X.calm = true) : CallR X (.builtin "max") (rMax X.K) := by
  intro pins s σ H vs us Q I r h
  obtain ⟨a, ns, rfl, hs, hne, q⟩ := h
  obtain ⟨its, rv, hl, _⟩ := I.list hs
  rw [Vals.ref1 r]
  exact max_raw (I.ok.hd hc) hl.isList rv.ints hne fun h' tk m t' hk h1 h2 => ⟨.int _, H, I.kept hk, ⟨_, rfl⟩, q m h1 h2⟩
theorem cr_min (hc : X.calm = true) : CallR X (.builtin "min") (rMin X.K) := by
  intro pins s σ H vs us Q I r h
  obtain ⟨a, ns, rfl, hs, hne, q⟩ := h
  obtain ⟨its, rv, hl, _⟩ := I.list hs
  rw [Vals.ref1 r]
  exact min_raw (I.ok.hd hc) hl.isList rv.ints hne fun h' tk m t' hk h1 h2 => ⟨.int _, H, I.kept hk, ⟨_, rfl⟩, q m h1 h2⟩
end
section
variable {X : Cx}
end
section
variable {X : Cx}
end
section
variable {X : Cx}
end
section
variable {X : Cx} {pins : List (Addr × Obj)} {σ : St} {H : Hp} {s : Shared}
end
section
variable {X : Cx}
end
end L2
namespace L2
open PySem PySem.Spec PyProof.Rows
noncomputable abbrev CellAt (h : Heap) (c : Addr) (v : Option Value) : Prop := h.IsCell c v
noncomputable def relS (scope sc : Scope) : Scope :=
  { scope with names := scope.names.map fun (n, k) => if (k == .free && sc.kind == .function && sc.names.lookup n == some .cell) then (n, .cell) else (n, k) }
noncomputable def cloFrom (cells : List (Str × Addr)) : List (Str × NameKind) → List (Str × Addr) → List (Str × Addr)
  | [], acc => acc
  | (n, k) :: r, acc => if k == .free then cloFrom cells r ((n, (cells.lookup n).getD 0) :: acc) else cloFrom cells r acc
theorem closure_loop (env : Env) (f : Str × NameKind → List (Str × Addr) → Sem (ForInStep (List (Str × Addr))))
    (hf : ∀ n k c, f (n, k) c = if k == .free then (do let a ← cellOf env n; pure (.yield ((n, a) :: c))) else pure (.yield c)) :
    ∀ (names : List (Str × NameKind)) (acc : List (Str × Addr)), (∀ y ∈ names, y.2 = .free → ∃ c, env.cells.lookup y.1 = some c) → forIn names acc f = pure (cloFrom env.cells names acc)
  | [], acc, _ => by rw [List.forIn_nil]; rfl
  | (n, k) :: r, acc, h => by
    rw [List.forIn_cons, hf]
    have ih := fun acc => closure_loop env f hf r acc fun y hy => h y (List.mem_cons_of_mem _ hy)
    unfold cloFrom
    by_cases hk : (k == NameKind.free) = true
    · rw [if_pos hk, if_pos hk]
      obtain ⟨c, hc⟩ := h (n, k) List.mem_cons_self (by simpa using hk)
      have e : cellOf env n = pure c := by unfold cellOf; rw [hc]
      rw [e]
      have e2 : (env.cells.lookup n).getD 0 = c := by rw [hc]; rfl
      rw [e2]
      exact ih _
    · rw [if_neg hk, if_neg hk]
      exact ih _
theorem closure_ok {scope : Scope} {env : Env} (h : ∀ y ∈ scope.names, y.2 = .free → ∃ c, env.cells.lookup y.1 = some c) : closureFor scope env = pure (cloFrom env.cells scope.names []) := by
  simp only [closureFor]
  rw [closure_loop env _ (fun n k c => rfl) scope.names [] h]
  rfl
theorem mem_lookup {α : Type} : ∀ {l : List (Str × α)} {n : Str} {c : α}, (n, c) ∈ l → ∃ c', l.lookup n = some c'
  | (k, v) :: r, n, c, h => by
    rw [List.lookup_cons]
    cases hb : n == k with
    | true => exact ⟨_, rfl⟩
    | false =>
      rcases List.mem_cons.mp h with e | h
      · cases e; simp at hb
      · exact mem_lookup h
theorem cloFrom_mem {cells : List (Str × Addr)} : ∀ {names : List (Str × NameKind)} {acc : List (Str × Addr)} {n : Str} {c : Addr}, (n, c) ∈ cloFrom cells names acc → (n, c) ∈ acc ∨ ((n, .free) ∈ names ∧ c = (cells.lookup n).getD 0)
  | [], _, _, _, h => .inl h
  | (m, k) :: r, acc, n, c, h => by
    unfold cloFrom at h
    split at h
    · rename_i hk
      have hk : k = .free := by simpa using hk
      rcases cloFrom_mem h with h | ⟨h1, h2⟩
      · rcases List.mem_cons.mp h with e | h
        · cases e; exact .inr ⟨hk ▸ List.mem_cons_self, rfl⟩
        · exact .inl h
      · exact .inr ⟨List.mem_cons_of_mem _ h1, h2⟩
    · rcases cloFrom_mem h with h | ⟨h1, h2⟩
      · exact .inl h
      · exact .inr ⟨List.mem_cons_of_mem _ h1, h2⟩
theorem cloFrom_acc {cells : List (Str × Addr)} : ∀ {names : List (Str × NameKind)} {acc : List (Str × Addr)} {p : Str × Addr}, p ∈ acc → p ∈ cloFrom cells names acc
  | [], _, _, h => h
  | (m, k) :: r, acc, p, h => by
    unfold cloFrom
    split
    · exact cloFrom_acc (List.mem_cons_of_mem _ h)
    · exact cloFrom_acc h
theorem cloFrom_has {cells : List (Str × Addr)} : ∀ {names : List (Str × NameKind)} {acc : List (Str × Addr)} {n : Str}, (n, .free) ∈ names → (n, (cells.lookup n).getD 0) ∈ cloFrom cells names acc
  | (m, k) :: r, acc, n, h => by
    unfold cloFrom
    rcases List.mem_cons.mp h with e | h
    · cases e
      exact cloFrom_acc List.mem_cons_self
    · split
      · exact cloFrom_has h
      · exact cloFrom_has h
theorem cells_mem : ∀ {names : List (Str × NameKind)} {h : Heap} {acc : List (Str × Addr)} {x : Str} {c : Addr}, (x, c) ∈ cellsFrom h.objs.size names acc →
    (x, c) ∈ acc ∨ ((x, .cell) ∈ names ∧ h.objs.size ≤ c ∧ CellAt (pushCells h names) c none)
  | [], _, _, _, _, h => .inl h
  | (n, k) :: r, h, acc, x, c, hm => by
    unfold cellsFrom at hm
    unfold pushCells
    split at hm
    · rename_i hk
      rw [if_pos hk]
      have hk : k = .cell := by simpa using hk
      rw [← Heap.size_push h { cls := .type "cell", data := .cell none }] at hm
      rcases cells_mem hm with hm | ⟨h1, h2, h3⟩
      · rcases List.mem_cons.mp hm with e | hm
        · cases e
          exact .inr ⟨hk ▸ List.mem_cons_self, Nat.le_refl _, _, pushCells_keeps r _ _ _ (Heap.get?_push_size _ rfl), rfl⟩
        · exact .inl hm
      · rw [Heap.size_push] at h2
        exact .inr ⟨List.mem_cons_of_mem _ h1, Nat.le_of_succ_le h2, h3⟩
    · rename_i hk
      rw [if_neg hk]
      rcases cells_mem hm with hm | ⟨h1, h2, h3⟩
      · exact .inl hm
      · exact .inr ⟨List.mem_cons_of_mem _ h1, h2, h3⟩
theorem cells_acc : ∀ {names : List (Str × NameKind)} {n : Nat} {acc : List (Str × Addr)} {p : Str × Addr}, p ∈ acc → p ∈ cellsFrom n names acc
  | [], _, _, _, h => h
  | (m, k) :: r, n, acc, p, h => by
    unfold cellsFrom
    split
    · exact cells_acc (List.mem_cons_of_mem _ h)
    · exact cells_acc h
theorem cells_has : ∀ {names : List (Str × NameKind)} {n : Nat} {acc : List (Str × Addr)} {x : Str}, (x, .cell) ∈ names → ∃ c, (x, c) ∈ cellsFrom n names acc
  | (m, k) :: r, n, acc, x, h => by
    unfold cellsFrom
    rcases List.mem_cons.mp h with e | h
    · cases e
      exact ⟨n, cells_acc List.mem_cons_self⟩
    · split
      · exact cells_has h
      · exact cells_has h
theorem cells_inj : ∀ {names : List (Str × NameKind)} {h : Heap} {acc : List (Str × Addr)} {x y : Str} {c : Addr}, (∀ p ∈ acc, p.2 < h.objs.size) → (∀ x y c, (x, c) ∈ acc → (y, c) ∈ acc → x = y) →
    (x, c) ∈ cellsFrom h.objs.size names acc → (y, c) ∈ cellsFrom h.objs.size names acc → x = y
  | [], _, _, _, _, _, _, hi, h1, h2 => hi _ _ _ h1 h2
  | (n, k) :: r, h, acc, x, y, c, hl, hi, h1, h2 => by
    unfold cellsFrom at h1 h2
    split at h1
    · rename_i hk
      rw [if_pos hk] at h2
      rw [← Heap.size_push h { cls := .type "cell", data := .cell none }] at h1 h2
      refine cells_inj (h := h.push _) (fun p hp => ?_) (fun x y c a b => ?_) h1 h2
      · rw [Heap.size_push]
        rcases List.mem_cons.mp hp with rfl | hp
        · exact Nat.lt_succ_self _
        · exact Nat.lt_succ_of_lt (hl p hp)
      · rcases List.mem_cons.mp a with e | a <;> rcases List.mem_cons.mp b with e' | b
        · cases e; cases e'; rfl
        · cases e; exact absurd (hl _ b) (Nat.lt_irrefl _)
        · cases e'; exact absurd (hl _ a) (Nat.lt_irrefl _)
        · exact hi _ _ _ a b
    · rename_i hk
      rw [if_neg hk] at h2
      exact cells_inj hl hi h1 h2
theorem newEnv_comp {M : Model} {A : Around} {E : Value → Shared → Prop} {s : Shared} {scope : Scope} {globals : Addr} {closure : List (Str × Addr)} {qual : Str} {func : Option Addr} {code : Value} {around : Env} {builtins : Addr} {Q : Env → Shared → Prop}
    (h : Q (newEnv scope s.heap.objs.size globals (cellsFrom (s.heap.objs.size + 1) scope.names closure) qual func code (some around) builtins)
      { s with heap := pushCells (s.heap.push { cls := .type "dict", data := .dict #[] }) scope.names }) :
    wpAny M A (newFunctionEnv scope globals closure [] qual func code (some around) builtins) Q E s := by
  simp only [newFunctionEnv, Option.isSome_some, if_true]
  refine wpAny_bind (wpAny_alloc ?_)
  refine wpAny_bind (wpAny_layCells _ (fun n k c => rfl) scope.names closure _ _ ?_)
  rw [show ({ s with heap := s.heap.push { cls := .type "dict", data := .dict #[] } } : Shared).heap.objs.size = s.heap.objs.size + 1 from Heap.size_push ..]
  rw [List.forIn_nil]
  exact wpAny_bind (wpAny_pure (wpAny_pure h))
theorem lookup_relS {sc : Scope} : ∀ {names : List (Str × NameKind)} {x : Str} {k : NameKind},
    (names.map fun (n, k) => if (k == NameKind.free && sc.kind == .function && sc.names.lookup n == some .cell) then (n, NameKind.cell) else (n, k)).lookup x = some k →
    ∃ k', names.lookup x = some k' ∧ (k = k' ∨ (k' = .free ∧ k = .cell))
  | [], _, _, h => by simp at h
  | (n, k₀) :: r, x, k, h => by
    have ih := @lookup_relS sc r x k
    have h' : List.lookup x ((if (k₀ == NameKind.free && sc.kind == .function && sc.names.lookup n == some .cell) = true then (n, NameKind.cell) else (n, k₀)) :: (r.map _)) = some k := h
    cases hx : x == n with
    | true =>
      simp only [List.lookup_cons, hx]
      by_cases hc : (k₀ == NameKind.free && sc.kind == .function && sc.names.lookup n == some .cell) = true
      · rw [if_pos hc] at h'
        simp only [List.lookup_cons, hx] at h'
        cases h'
        simp only [Bool.and_eq_true, beq_iff_eq] at hc
        exact ⟨k₀, rfl, .inr ⟨hc.1.1, rfl⟩⟩
      · rw [if_neg hc] at h'
        simp only [List.lookup_cons, hx] at h'
        cases h'
        exact ⟨_, rfl, .inl rfl⟩
    | false =>
      simp only [List.lookup_cons, hx]
      by_cases hc : (k₀ == NameKind.free && sc.kind == .function && sc.names.lookup n == some .cell) = true
      · rw [if_pos hc] at h'
        simp only [List.lookup_cons, hx] at h'
        exact ih h'
      · rw [if_neg hc] at h'
        simp only [List.lookup_cons, hx] at h'
        exact ih h'
structure BlkOk (N : List Str) (sc scope : Scope) (own : List (Str × Nat)) : Prop where
  kind : scope.kind = .function
  uniq : ∀ y ∈ scope.names, scope.names.lookup y.1 = some y.2
  ix : ∀ p ∈ own, N[p.2]? = some p.1
  free : ∀ y ∈ scope.names, y.2 = .free → sc.names.lookup y.1 = some .cell ∨ sc.names.lookup y.1 = some .free
  own : ∀ y ∈ scope.names, y.2 = .local ∨ y.2 = .cell → y.1 ∈ own.map (·.1) ∨ y.1 ∉ N
noncomputable def wipe (σ : St) : List Nat → St
  | [] => σ
  | v :: vs => (wipe σ vs).set v none
theorem wipe_length (σ : St) : ∀ vs : List Nat, (wipe σ vs).length = σ.length
  | [] => rfl
  | v :: vs => by unfold wipe; rw [List.length_set, wipe_length σ vs]
theorem wipe_some {σ : St} {i : Nat} {x : V} : ∀ {vs : List Nat}, (wipe σ vs)[i]? = some (some x) → σ[i]? = some (some x) ∧ i ∉ vs
  | [], h => ⟨h, by simp⟩
  | v :: vs, h => by
    unfold wipe at h
    by_cases hi : v = i
    · subst hi
      by_cases hv : v < (wipe σ vs).length
      · rw [List.getElem?_set_self hv] at h; cases h
      · rw [List.getElem?_eq_none (by simpa using hv)] at h; cases h
    · rw [List.getElem?_set_ne hi] at h
      obtain ⟨h1, h2⟩ := wipe_some h
      exact ⟨h1, by simp only [List.mem_cons, not_or]; exact ⟨fun e => hi e.symm, h2⟩⟩
noncomputable abbrev Cx.blk (X : Cx) (s : Shared) (H : Hp) (scope : Scope) (cenv : Env) (fp : List Addr) : Cx := { X with s_0 := s, H_0 := H, env := cenv, outer := X.stack, ex := fp, fn := fun x => scope.names.lookup x == some .cell, pn := [], xe := fun _ _ => False }
section
variable {X : Cx} {pins : List (Addr × Obj)} {σ : St} {H : Hp} {s : Shared}
theorem block_start {scope : Scope} {own : List (Str × Nat)} {fp : List Addr} (I : Inv X pins σ H s) (ok : BlkOk X.N X.env.scope scope own) (hN : X.N.Nodup) (hfp : ∀ b ∈ fp, FpOk X pins H b ∧ b < s.heap.objs.size) :
    Inv (X.blk s H scope (compEnvC scope (cellsFrom (s.heap.objs.size + 1) scope.names (cloFrom X.env.cells scope.names [])) s.heap.objs.size X.env) fp) [] (wipe σ (own.map (·.2))) H { s with heap := pushCells (s.heap.push { cls := .type "dict", data := .dict #[] }) scope.names } := by
  have hfree : ∀ y ∈ scope.names, y.2 = .free → ∃ c, X.env.cells.lookup y.1 = some c := fun y hy e => by
    rcases ok.free y hy e with k | k
    · exact I.ok.has _ (.inl k)
    · exact I.ok.has _ (.inr k)
  generalize hcenv : compEnvC scope (cellsFrom (s.heap.objs.size + 1) scope.names (cloFrom X.env.cells scope.names [])) s.heap.objs.size X.env = cenv
  have kp : ∀ b o, s.heap.get? b = some o → (pushCells (s.heap.push { cls := .type "dict", data := .dict #[] }) scope.names).get? b = some o := fun b o e => pushCells_keeps _ _ _ _ (Heap.get?_push_of_some _ e)
  have hL : cenv.locals = s.heap.objs.size := by rw [← hcenv]; rfl
  have hcl : cenv.cells = cellsFrom (s.heap.objs.size + 1) scope.names (cloFrom X.env.cells scope.names []) := by rw [← hcenv]; rfl
  have hsc : cenv.scope = relS scope X.env.scope := by rw [← hcenv]; rfl
  rw [← Heap.size_push s.heap { cls := .type "dict", data := .dict #[] }] at hcl
  have cm : ∀ {y c}, (y, c) ∈ cloFrom X.env.cells scope.names [] → X.env.cells.lookup y = some c ∧ c < s.heap.objs.size := fun {y c} hm => by
    rcases cloFrom_mem hm with hm | ⟨h1, rfl⟩
    · cases hm
    · obtain ⟨c, hc⟩ := hfree _ h1 rfl
      rw [hc]
      obtain ⟨w, z⟩ := I.cell _ _ hc
      exact ⟨rfl, z.lt⟩
  have mem : ∀ {y c}, cenv.cells.lookup y = some c → (X.env.cells.lookup y = some c ∧ c < s.heap.objs.size) ∨ (s.heap.objs.size + 1 ≤ c ∧ CellAt (pushCells (s.heap.push { cls := .type "dict", data := .dict #[] }) scope.names) c none) := fun {y c} e => by
    rw [hcl] at e
    rcases cells_mem (PySem.mem_of_lookup e) with hm | ⟨_, h2, h3⟩
    · exact .inl (cm hm)
    · rw [Heap.size_push] at h2; exact .inr ⟨h2, h3⟩
  have look : ∀ {y}, scope.names.lookup y = some .free → ∃ c, cenv.cells.lookup y = some c ∧ X.env.cells.lookup y = some c := fun {y} hl => by
    have hy : (y, NameKind.free) ∈ scope.names := PySem.mem_of_lookup hl
    obtain ⟨c', e'⟩ := mem_lookup (cells_acc (names := scope.names) (n := (s.heap.push { cls := .type "dict", data := .dict #[] }).objs.size) (cloFrom_has (cells := X.env.cells) (acc := []) hy))
    rw [← hcl] at e'
    refine ⟨c', e', ?_⟩
    rw [hcl] at e'
    rcases cells_mem (PySem.mem_of_lookup e') with hm | ⟨h1, _, _⟩
    · exact (cm hm).1
    · have := ok.uniq _ h1
      rw [hl] at this; cases this
  have okB : (X.blk s H scope cenv fp).Ok := by
    refine ⟨I.ok.mod, by show cenv.scope.kind = _; rw [hsc]; exact ok.kind, by show cenv.globals = _; rw [← hcenv]; exact I.ok.glob, by show cenv.builtins = _; rw [← hcenv]; exact I.ok.blt, by show s.heap.objs.size ≤ cenv.locals; rw [hL]; exact Nat.le_refl _,
      fun y z c e1 e2 => ?_, fun y hy => ?_, fun y c z e => ?_, I.ok.hd, I.ok.frames, .inl rfl, fun b hb => ⟨?_, fun y c e z => ?_⟩, I.bs, Nat.le_trans I.ok.bsz I.sz, fun b o e hb => ?_, fun b hb z => ?_, I.stack, I.stkFree⟩
    · have e1 : cenv.cells.lookup y = some c := e1
      have e2 : cenv.cells.lookup z = some c := e2
      rw [hcl] at e1 e2
      refine cells_inj (fun p hp => ?_) (fun y z c a b => I.ok.inj y z c (cm a).1 (cm b).1) (PySem.mem_of_lookup e1) (PySem.mem_of_lookup e2)
      rw [Heap.size_push]
      exact Nat.lt_succ_of_lt (cm (y := p.1) (c := p.2) hp).2
    · show ∃ c, cenv.cells.lookup y = some c
      have key : ∀ k, cenv.kindOf y = some k → (k = .cell ∨ k = .free) → ∃ c, cenv.cells.lookup y = some c := fun k hk hk' => by
        unfold Env.kindOf at hk
        rw [hsc] at hk
        obtain ⟨k', e, r⟩ := lookup_relS hk
        have : k' = .cell ∨ k' = .free := by
          rcases r with rfl | ⟨rfl, _⟩
          · exact hk'
          · exact .inr rfl
        rcases this with rfl | rfl
        · obtain ⟨c, hm⟩ := cells_has (n := (s.heap.push { cls := .type "dict", data := .dict #[] }).objs.size) (acc := cloFrom X.env.cells scope.names []) (PySem.mem_of_lookup e)
          obtain ⟨c', e'⟩ := mem_lookup hm
          exact ⟨c', by rw [hcl]; exact e'⟩
        · obtain ⟨c, h1, _⟩ := look e
          exact ⟨c, h1⟩
      rcases hy with hy | hy
      · exact key _ hy (.inl rfl)
      · exact key _ hy (.inr rfl)
    · have z : (scope.names.lookup y == some NameKind.cell) = true := z
      have z : scope.names.lookup y = some .cell := by simpa using z
      have e : cenv.cells.lookup y = some c := e
      rw [hcl] at e
      rcases cells_mem (PySem.mem_of_lookup e) with hm | ⟨_, h2, _⟩
      · rcases cloFrom_mem hm with hm | ⟨h1, _⟩
        · cases hm
        · have q := ok.uniq _ h1
          rw [z] at q; cases q
      · rw [Heap.size_push] at h2
        exact Nat.le_of_succ_le h2
    · show b ≠ cenv.locals
      rw [hL]; exact Nat.ne_of_lt (hfp b hb).2
    · have e : cenv.cells.lookup y = some c := e
      rcases mem e with ⟨h1, _⟩ | ⟨h1, _⟩
      · exact (hfp b hb).1.2.2.2.2.1 y c h1 z
      · have h2 : s.heap.objs.size + 1 ≤ b := by rw [← z]; exact h1
        exact absurd (Nat.lt_of_lt_of_le (hfp b hb).2 (Nat.le_of_succ_le h2)) (Nat.lt_irrefl _)
    · rcases (hfp b hb).1.2.2.2.1 with z | z
      · exact I.ok.noex b o e z
      · exact absurd (Nat.lt_of_lt_of_le (Heap.lt_size e) (Nat.le_trans I.ok.bsz z)) (Nat.lt_irrefl _)
    · rcases List.mem_cons.mp (I.stkSub b z) with z | z
      · exact (hfp b hb).1.2.1 z
      · exact (hfp b hb).1.2.2.1 z
  refine ⟨okB, rfl, I.bare, Un.kept kp, ⟨fun _ => none, ?_, fun i y av e1 e2 e3 => ?_⟩, fun y c e => ?_, ?_, fun y c e => ?_, fun p hp => ?_, I.hok.kept kp, by rw [wipe_length]; exact I.len⟩
  · show Heap.Ns _ cenv.locals _
    rw [hL]
    exact Heap.Ns.keeps (Heap.Ns.new ..) fun b o e => pushCells_keeps _ _ _ _ e
  · obtain ⟨e2, hne⟩ := wipe_some e2
    have hfr : scope.names.lookup y = some .free ∧ (cenv.kindOf y = some .cell ∨ cenv.kindOf y = some .free) := by
      have key : ∀ k, cenv.scope.names.lookup y = some k → k = .local ∨ k = .cell ∨ k = .free → scope.names.lookup y = some .free ∧ (cenv.kindOf y = some .cell ∨ cenv.kindOf y = some .free) := fun k hk hk' => by
        have hk0 := hk
        rw [hsc] at hk
        obtain ⟨k', e, r⟩ := lookup_relS hk
        have no : ¬ (k' = .local ∨ k' = .cell) := fun hh => by
          rcases ok.own _ (PySem.mem_of_lookup e) hh with e' | e'
          · obtain ⟨p, hp, hpy⟩ := List.mem_map.mp e'
            have e3 := ok.ix p hp
            have : p.1 = y := hpy
            rw [this] at e3
            exact hne (List.mem_map.mpr ⟨p, hp, nodup_ix hN e3 e1⟩)
          · exact e' (List.mem_of_getElem? e1)
        rcases r with rfl | ⟨rfl, rfl⟩
        · rcases hk' with rfl | rfl | rfl
          · exact absurd (.inl rfl) no
          · exact absurd (.inr rfl) no
          · exact ⟨e, .inr hk0⟩
        · exact ⟨e, .inl hk0⟩
      have e3 : Vis cenv.scope y := e3
      rcases e3 with e3 | e3 | e3
      · exact key _ e3 (.inl rfl)
      · exact key _ e3 (.inr (.inl rfl))
      · exact key _ e3 (.inr (.inr rfl))
    obtain ⟨m, hn, hl⟩ := I.loc
    have hvis : Vis X.env.scope y := (ok.free _ (PySem.mem_of_lookup hfr.1) rfl).elim (fun k => .inr (.inl k)) (fun k => .inr (.inr k))
    obtain ⟨w, r, q⟩ := hl i y av e1 e2 hvis
    refine ⟨w, r, .inr ⟨hfr.2, ?_⟩⟩
    obtain ⟨c, h1, h2⟩ := look hfr.1
    rcases q with ⟨k, _⟩ | ⟨_, c', e', z⟩
    · have k : X.env.scope.names.lookup y = some .local := k
      rcases ok.free _ (PySem.mem_of_lookup hfr.1) rfl with k' | k' <;> rw [show X.env.scope.names.lookup y = _ from k'] at k <;> cases k
    · rw [h2] at e'; cases e'
      exact ⟨c, h1, z.keeps kp⟩
  · have e : cenv.cells.lookup y = some c := e
    rcases mem e with ⟨h1, _⟩ | ⟨_, z⟩
    · obtain ⟨w, z⟩ := I.cell y c h1
      exact ⟨w, z.keeps kp⟩
    · exact ⟨_, z⟩
  · show H cenv.locals = none
    rw [hL]; exact I.hok.fresh (Nat.le_refl _)
  · have e : cenv.cells.lookup y = some c := e
    rcases mem e with ⟨h1, _⟩ | ⟨h1, _⟩
    · exact I.freeC y c h1
    · exact I.hok.fresh (Nat.le_of_succ_le h1)
  · exact absurd (show p ∈ ([] : List (Addr × Obj)) ++ [] from hp) (by simp)
theorem app_ok {E : Value → Shared → Prop} {D : Addr} {xs : List V} {y : V} {v : Value} {Q : Value → Shared → Prop} (I : Inv X pins σ H s) (hD : H D = some (.lst xs)) (hz : xs.length < sizeLine) (r : RelV y v)
    (h : ∀ s', Inv X pins σ (upd H D (.lst (xs ++ [y]))) s' → Q .none s') : wpAny (model X.prog X.w) X.A (call (.builtin "list.append") [.ref D, v]) Q E s := by
  obtain ⟨hz', its, n, ri, e⟩ := I.hok D _ hD
  have hl := ri.length
  refine append_at (hsz := by rw [List.size_toArray]; omega) e fun h' sb ho' => ?_
  refine h { s with heap := h' } (I.write (t' := s.toks) (by rw [hD]; trivial) (.inl rfl) (fun b u hb q => (sb.2 b hb).trans q) ⟨_, ho'⟩ ⟨by rw [List.length_append]; exact hz, its ++ [v], n + 1, ri.append (.cons r .nil), ?_⟩)
  rw [ho']
  simp
noncomputable def PTs (X : Cx) (ifs : List Expr) (t : TT) : Prop :=
  ∀ (pins : List (Addr × Obj)) (s : Shared) (σ : St) (H : Hp) (Q : Bool → Hp → Prop), Inv X pins σ H s → t σ H Q →
    wpAny (model X.prog X.w) X.A (forIn ifs true fun c r => if r = true then do let ok ← isTrue c X.env (eval c X.env); pure (ForInStep.yield ok) else pure (ForInStep.yield r)) (TP X pins σ Q) X.xe s
noncomputable def tYes : TT := fun _ H Q => Q true H
theorem pts_nil : PTs X [] tYes := fun _ _ _ H _ I h => wpAny_tests_nil ⟨H, I, h⟩
theorem pts_one {c : Expr} {t : TT} (h : PT X c t) : PTs X [c] t := fun pins s σ H Q I hw => wpAny_tests_one (h pins s σ H Q I hw)
end
theorem thnF {α : Type} {t : Sem α} {Q Q' : α → Shared → Prop} {M : Model} {A : Around} {E : Value → Shared → Prop} {s : Shared} (h : wpAny M A t Q (fun _ _ => False) s) (hQ : ∀ a s, Q a s → Q' a s) : wpAny M A t Q' E s := wpAny_mono h hQ fun _ _ z => False.elim z
theorem compLoop_any {prog : Program} {w : World} {A : Around} {R : Result → Shared → Prop} {s : Shared} {elt target iter : Expr} {ifs : List Expr} {scope : Scope} {pos : Pos} {it acc : Value} {env : Env} (I : Nat → Shared → Prop)
    (turn : ∀ n s, I n s → wpAny (model prog w) A (pyNext it) (fun r s₁ => match r with
      | none => R (.ok .next) s₁
      | some v => wpAny (model prog w) A (letOwnedTupleGo target it v) (fun _ s₁' => wpAny (model prog w) A (assign target env v) (fun _ s₂ =>
          wpAny (model prog w) A (forIn ifs true fun c r => if r = true then do let ok ← isTrue c env (eval c env); pure (ForInStep.yield ok) else pure (ForInStep.yield r)) (fun ok s₃ =>
            if ok = true then wpAny (model prog w) A (eval elt env) (fun x s₄ =>
              wpAny (model prog w) A (call (.builtin "list.append") [acc, x]) (fun _ s₅ => ∃ m, m < n ∧ I m s₅) (notedBy (model prog w) A env fun e s' => R (.error e) s') s₄) (notedBy (model prog w) A env fun e s' => R (.error e) s') s₃
            else ∃ m, m < n ∧ I m s₃) (notedBy (model prog w) A env fun e s' => R (.error e) s') s₂) (notedBy (model prog w) A env fun e s' => R (.error e) s') s₁') (notedBy (model prog w) A env fun e s' => R (.error e) s') s₁) (notedBy (model prog w) A env fun e s' => R (.error e) s') s)
    (n : Nat) (h : I n s) :
    codeAny (model prog w) A (.compLoop (.ListComp elt [⟨target, iter, ifs, 0⟩] scope pos) 0 it acc env) R s := by
  refine codeAny_loop rfl I (fun n s hI => ?_) n h
  show wpAny _ A ((compTurn (.ListComp elt [⟨target, iter, ifs, 0⟩] scope pos) 0 it acc env).onRaise (fun x => do noteFrame x env; theTreesLotGoes x)) _ _ s
  refine wpAny_noted ?_
  rw [compTurn_list]
  refine wpAny_bind (wpAny_standAt (wpAny_bind (wpAny_mono (turn n s hI) (fun r s₁ h₁ => ?_) fun _ _ h' => h')))
  cases r with
  | none => exact wpAny_pure h₁
  | some v =>
    refine wpAny_bind (wpAny_mono h₁ (fun _ s₁' h₁' => ?_) fun _ _ h' => h')
    refine wpAny_bind (wpAny_mono h₁' (fun _ s₂ h₂ => wpAny_bind (wpAny_mono h₂ (fun ok s₃ h₃ => ?_) fun _ _ h' => h')) fun _ _ h' => h')
    cases ok with
    | false => exact wpAny_pure ⟨rfl, h₃⟩
    | true =>
      exact wpAny_bind (wpAny_bind (wpAny_mono h₃ (fun x s₄ h₄ => wpAny_bind (wpAny_mono h₄ (fun _ s₅ h₅ => wpAny_pure (wpAny_pure ⟨rfl, h₅⟩)) fun _ _ h' => h')) fun _ _ h' => h'))
section
variable {X : Cx}
noncomputable def tLc (wi : TI) (g : TG) (tt : TT) (te : TE) (vs : List Nat) : TE := fun σ H Q => wi σ H fun J H1 => ∀ D, H1 D = none → ∃ W : Nat → Nat → Hp → Prop, (∃ m, W 0 m (upd H1 D (.lst []))) ∧ ∀ i m H, W i m H →
  (J.stop i H ∧ Q (.ref D) H) ∨ (J.go i H ∧ ∃ Nx : Hp → Prop, (∀ H', Nx H' → ∃ m', m' < m ∧ W (i + 1) m' H') ∧ ∀ x H', J.yld i H x H' → g x (wipe σ vs) H' fun σ2 H2 => wipe σ2 vs = wipe σ vs ∧ tt σ2 H2 fun b H3 =>
    if b = true then te σ2 H3 fun y H4 => ∃ acc, H4 D = some (.lst acc) ∧ acc.length < sizeLine ∧ Nx (upd H4 D (.lst (acc ++ [y]))) else Nx H3)
theorem lc_core {pins : List (Addr × Obj)} {s : Shared} {σ : St} {H : Hp} {Q : VK} {elt tg iter : Expr} {ifs : List Expr} {scope : Scope} {own : List (Str × Nat)} {pos pos' : Pos} {wi : TI} {g : TG} {tt : TT} {te : TE} {use : Option (Value → Sem Unit)} {Qf : Value → Shared → Prop}
    (hc : X.calm = true) (hN : X.N.Nodup) (I : Inv X pins σ H s) (hi : PI X tg iter wi) (ok : BlkOk X.N X.env.scope scope own)
    (hg : ∀ (s : Shared) (H : Hp) (C : Addr) (cl : List (Str × Addr)) (fp : List Addr), PG (X.blk s H scope (compEnvC scope cl C X.env) fp) tg g) (ht : ∀ (s : Shared) (H : Hp) (C : Addr) (cl : List (Str × Addr)) (fp : List Addr), PTs (X.blk s H scope (compEnvC scope cl C X.env) fp) ifs tt)
    (he : ∀ (s : Shared) (H : Hp) (C : Addr) (cl : List (Str × Addr)) (fp : List Addr), PE (X.blk s H scope (compEnvC scope cl C X.env) fp) elt te) (hs : ∀ x, foldedSetIterable iter X.env x = pure x)
    (h : tLc wi g tt te (own.map (·.2)) σ H Q)
    (hRR : ∀ D C s' m H', Inv X pins σ H' s' → Q (.ref D) H' → s'.heap.Ns C m → FpOk X pins H' C → compPost (model X.prog X.w) X.A X.xe use Qf (.ref D) C (.ok .next) s') :
    wpAny (model X.prog X.w) X.A (comprehension (.ListComp elt [⟨tg, iter, ifs, 0⟩] scope pos) scope X.env pos' (newList []) false (eval iter X.env) use) Qf X.xe s := by
  have hfree : ∀ y ∈ scope.names, y.2 = .free → ∃ c, X.env.cells.lookup y.1 = some c := fun y hy e => by
    rcases ok.free y hy e with k | k
    · exact I.ok.has _ (.inl k)
    · exact I.ok.has _ (.inr k)
  refine wpAny_comprehension_free (use := use) rfl hs (closure_ok hfree) ok.kind (fun y hy e => by rw [ok.uniq y hy, e])
    (thn (hi pins s σ H _ I h) fun xv s1 hx => thn hx fun itv s2 h2 => ?_)
  obtain ⟨it, fp, tn, J, H2, e, I2, T, st2, f2, q⟩ := h2
  subst e
  refine wpAny_newObj_type (newEnv_comp ?_) (by show 0 ≤ sizeLine; decide)
  generalize hD : s2.heap.objs.size = D
  have hDn : H2 D = none := I2.hok.fresh (Nat.le_of_eq hD)
  obtain ⟨W, ⟨m0, w0⟩, turn⟩ := q D hDn
  -- the new list
  generalize hs3 : ({ s2 with heap := s2.heap.push { cls := .type "list", data := .seq ([] : List Value).toArray } } : Shared) = s3
  have I3 : Inv X pins σ (upd H2 D (.lst [])) s3 := by
    rw [← hs3]
    refine I2.laid (t' := s2.toks) (fun b o e => Heap.get?_push_of_some _ e) (Nat.le_of_eq hD) ⟨Nat.zero_le _, [], 0, .nil, ?_⟩
    rw [← hD]
    exact Heap.get?_push_size _ rfl
  have h3 : s3.heap = s2.heap.push { cls := .type "list", data := .seq ([] : List Value).toArray } := by rw [← hs3]
  have sz : ∀ b ∈ fp, b < s2.heap.objs.size := fun b hb => by
    obtain ⟨o, e, _⟩ := T.obj _ _ st2 b hb
    exact Heap.lt_size e
  have f3 : ∀ b ∈ fp, FpOk X pins (upd H2 D (.lst [])) b ∧ b < s3.heap.objs.size := fun b hb => by
    have hlt := sz b hb
    refine ⟨⟨?_, (f2 b hb).2⟩, by rw [h3, Heap.size_push]; exact Nat.lt_succ_of_lt hlt⟩
    rw [upd_ne (by rw [← hD]; exact Nat.ne_of_lt hlt)]
    exact (f2 b hb).1
  have st3 : tn 0 s3.heap := T.keep _ _ _ st2 fun b _ o e => by rw [h3]; exact Heap.get?_push_of_some _ e
  have I4 := block_start I3 ok hN f3
  have pg := hg s3 (upd H2 D (.lst [])) s3.heap.objs.size (cellsFrom (s3.heap.objs.size + 1) scope.names (cloFrom X.env.cells scope.names [])) fp
  have pt := ht s3 (upd H2 D (.lst [])) s3.heap.objs.size (cellsFrom (s3.heap.objs.size + 1) scope.names (cloFrom X.env.cells scope.names [])) fp
  have pe := he s3 (upd H2 D (.lst [])) s3.heap.objs.size (cellsFrom (s3.heap.objs.size + 1) scope.names (cloFrom X.env.cells scope.names [])) fp
  show codeAny _ _ (.compStart (.ListComp elt [⟨tg, iter, ifs, 0⟩] scope pos) 0 (.ref it) (.ref D) (compEnvC scope (cellsFrom (s3.heap.objs.size + 1) scope.names (cloFrom X.env.cells scope.names [])) s3.heap.objs.size X.env)) (compPost (model X.prog X.w) X.A X.xe use Qf (.ref D) s3.heap.objs.size) { s3 with heap := pushCells (s3.heap.push { cls := .type "dict", data := .dict #[] }) scope.names }
  have nfp : ∀ b ∈ fp, (upd H2 D (.lst [])) b = none := fun b hb => (f3 b hb).1.1
  generalize hce : compEnvC scope (cellsFrom (s3.heap.objs.size + 1) scope.names (cloFrom X.env.cells scope.names [])) s3.heap.objs.size X.env = ce at I4 pg pt pe ⊢
  have cL : ce.locals = s3.heap.objs.size := by subst hce; rfl
  generalize hH3 : upd H2 D (.lst []) = H3 at I3 I4 pg pt pe w0 nfp f3
  generalize hs4 : ({ s3 with heap := pushCells (s3.heap.push { cls := .type "dict", data := .dict #[] }) scope.names } : Shared) = s4 at I4 ⊢
  have st4 : tn 0 s4.heap := T.keep _ _ _ st3 fun b _ o e => by rw [← hs4]; exact pushCells_keeps _ _ _ _ (Heap.get?_push_of_some _ e)
  have stat : ∀ {σ' : St} {H' : Hp} {s' : Shared}, Inv (X.blk s3 H3 scope ce fp) [] σ' H' s' → (∀ b ∈ fp, H' b = none) → ∀ b ∈ fp, FpOk (X.blk s3 H3 scope ce fp) [] H' b := fun {σ' H' s'} I' hn b hb =>
    ⟨hn b hb, (I'.ok.exf b hb).1, I'.ok.exfs b hb, .inl hb, fun x c e => (I'.ok.exf b hb).2 x c e, fun p hp => absurd (show p ∈ ([] : List (Addr × Obj)) ++ [] from hp) (by simp)⟩
  have loop : codeAny (model X.prog X.w) X.A (.compLoop (.ListComp elt [⟨tg, iter, ifs, 0⟩] scope pos) 0 (.ref it) (.ref D) ce) (compPost (model X.prog X.w) X.A X.xe use Qf (.ref D) s3.heap.objs.size) s4 := by
    refine compLoop_any (fun n s' => ∃ i H', Inv (X.blk s3 H3 scope ce fp) [] (wipe σ (own.map (·.2))) H' s' ∧ tn i s'.heap ∧ (∀ b ∈ fp, H' b = none) ∧ W i n H') ?_ m0 ⟨0, H3, I4, st4, nfp, w0⟩
    rintro n s5 ⟨i, H5, I5, st5, n5, w5⟩
    rcases turn i n H5 w5 with ⟨stop, qq⟩ | ⟨go, Nx, hNx, step⟩
    · have td := T.done (X.blk s3 H3 scope ce fp) rfl rfl rfl hc i [] s5 _ H5 (fun _ _ => False) I5 (stat I5 n5) st5 stop
      refine thnF td fun r s6 ⟨hr, I6⟩ => ?_
      subst hr
      -- back in the def's context
      have I7 : Inv X pins σ H5 s6 := I3.call' (ch := fp) I6.os I6.base I6.hok I6.bare fun b hb => ⟨(f3 b hb).1.2.2.2.1, (f3 b hb).1.2.1, (f3 b hb).1.2.2.2.2.1, (f3 b hb).1.2.2.2.2.2⟩
      have nC : H5 s3.heap.objs.size = none := by
        have z : H5 ce.locals = none := I6.free
        rw [cL] at z
        exact z
      obtain ⟨m, hn, _⟩ := I6.loc
      have hn : s6.heap.Ns ce.locals m := hn
      rw [cL] at hn
      exact hRR D s3.heap.objs.size s6 m H5 I7 qq hn (I3.fpOk (Nat.le_refl _) nC)
    · have ti := T.item (X.blk s3 H3 scope ce fp) rfl rfl rfl hc i [] s5 _ H5 (fun _ _ => False) I5 (stat I5 n5) st5 go
      refine thnF ti fun r s6 ⟨u, hr, h6⟩ => ?_
      subst hr
      refine thnF h6 fun _ s7 ⟨x, H7, I7, r7, y7, st7, n7⟩ => ?_
      have I7' := I7.pinned (stat I7 n7) (T.obj _ _ st7)
      refine thnF (pg _ s7 _ H7 x u _ I7' r7 (step x H7 y7)) fun _ s8 ⟨σ8, H8, I8, hw8, q8⟩ => ?_
      refine thnF (pt _ s8 σ8 H8 _ I8 q8) fun b s9 ⟨H9, I9, q9⟩ => ?_
      -- the turn's end
      have fin : ∀ {s' : Shared} {H' : Hp}, Inv (X.blk s3 H3 scope ce fp) ([] ++ pinsAt fp s7.heap) σ8 H' s' → Nx H' → ∃ m, m < n ∧ ∃ i H', Inv (X.blk s3 H3 scope ce fp) [] (wipe σ (own.map (·.2))) H' s' ∧ tn i s'.heap ∧ (∀ b ∈ fp, H' b = none) ∧ W i m H' := fun {s' H'} I' nx => by
        obtain ⟨m', hm, w'⟩ := hNx H' nx
        have pin' : ∀ b ∈ fp, ∀ o, s7.heap.get? b = some o → s'.heap.get? b = some o ∧ H' b = none := fun b hb o e =>
          let z := I'.pin (b, o) (List.mem_append_right _ (List.mem_append_right _ (mem_pinsAt hb e)))
          ⟨z.1, z.2.1⟩
        have hl : (wipe σ (own.map (·.2))).length = σ8.length := by rw [← hw8, wipe_length]
        refine ⟨m', hm, i + 1, H', (I'.unpinned (pins := [])).weak hl (fun j v e => ?_), T.keep _ _ _ st7 fun b hb o e => (pin' b hb o e).1, fun b hb => ?_, w'⟩
        · rw [← hw8] at e
          exact (wipe_some e).1
        · obtain ⟨o, e, _⟩ := T.obj _ _ st7 b hb
          exact (pin' b hb o e).2
      cases b with
      | false =>
        simp only [Bool.false_eq_true, if_false] at q9 ⊢
        exact fin I9 q9
      | true =>
        simp only [if_true] at q9 ⊢
        refine thnF (pe _ s9 σ8 H9 _ I9 q9) fun z s10 ⟨yv, H10, I10, r10, acc, hD10, hz10, nx⟩ => ?_
        exact app_ok (X := X.blk s3 H3 scope ce fp) I10 hD10 hz10 r10 fun s11 I11 => fin I11 nx
  exact codeAny_compStart_list loop (T.self X.A 0 _ _ _ st4 loop)
theorem pe_lc {elt tg iter : Expr} {ifs : List Expr} {scope : Scope} {own : List (Str × Nat)} {pos : Pos} {wi : TI} {g : TG} {tt : TT} {te : TE} (hc : X.calm = true) (hN : X.N.Nodup) (hi : PI X tg iter wi) (ok : BlkOk X.N X.env.scope scope own)
    (hg : ∀ (s : Shared) (H : Hp) (C : Addr) (cl : List (Str × Addr)) (fp : List Addr), PG (X.blk s H scope (compEnvC scope cl C X.env) fp) tg g) (ht : ∀ (s : Shared) (H : Hp) (C : Addr) (cl : List (Str × Addr)) (fp : List Addr), PTs (X.blk s H scope (compEnvC scope cl C X.env) fp) ifs tt)
    (he : ∀ (s : Shared) (H : Hp) (C : Addr) (cl : List (Str × Addr)) (fp : List Addr), PE (X.blk s H scope (compEnvC scope cl C X.env) fp) elt te) (hs : ∀ x, foldedSetIterable iter X.env x = pure x := by intro _; rfl) :
    PE X (.ListComp elt [⟨tg, iter, ifs, 0⟩] scope pos) (tLc wi g tt te (own.map (·.2))) := by
  intro pins s σ H Q I h
  rw [eval_ListComp]
  refine lc_core hc hN I hi ok hg ht he hs h fun D C s' m H' I' q hn f => ⟨m, hn, fun h'' sb => ?_⟩
  obtain ⟨f0, f1, f2, f3, f4, f5⟩ := f
  exact ⟨.ref D, H', I'.turned (t' := s'.toks) (fun b o hb e => (sb.2 b hb).trans e) f0 f1 f3 f4 f5, rfl, q⟩
theorem ps_setLc {i : Nat} {y : Str} {py : Pos} {elt tg iter : Expr} {ifs : List Expr} {scope : Scope} {own : List (Str × Nat)} {pos spos : Pos} {wi : TI} {g : TG} {tt : TT} {te : TE} (hc : X.calm = true) (hN : X.N.Nodup) (hy : X.N[i]? = some y) (hyl : X.env.scope.names.lookup y = some .local)
    (hsw : swapsWith (.ListComp elt [⟨tg, iter, ifs, 0⟩] scope pos) (some (.Name y py)) spos.line X.env = pure true) (hi : PI X tg iter wi) (ok : BlkOk X.N X.env.scope scope own)
    (hg : ∀ (s : Shared) (H : Hp) (C : Addr) (cl : List (Str × Addr)) (fp : List Addr), PG (X.blk s H scope (compEnvC scope cl C X.env) fp) tg g) (ht : ∀ (s : Shared) (H : Hp) (C : Addr) (cl : List (Str × Addr)) (fp : List Addr), PTs (X.blk s H scope (compEnvC scope cl C X.env) fp) ifs tt)
    (he : ∀ (s : Shared) (H : Hp) (C : Addr) (cl : List (Str × Addr)) (fp : List Addr), PE (X.blk s H scope (compEnvC scope cl C X.env) fp) elt te) (hs : ∀ x, foldedSetIterable iter X.env x = pure x := by intro _; rfl) :
    PS X (.Assign [.Name y py] (.ListComp elt [⟨tg, iter, ifs, 0⟩] scope pos) spos) (tAsg (tLc wi g tt te (own.map (·.2))) (gName i)) := by
  intro pins s σ H D I h
  rw [exec_Assign_Name_used _ _ _ _ hsw]
  refine wpAny_bind (wpAny_standAt (wpAny_bind ?_))
  show wpAny _ X.A (do let _ ← comprehension (.ListComp elt [⟨tg, iter, ifs, 0⟩] scope pos) scope X.env (firstIterPos [⟨tg, iter, ifs, 0⟩] pos) (newList []) false (eval iter X.env) (some (assign (.Name y py) X.env))) _ _ s
  have h : tLc wi g tt te (own.map (·.2)) σ H (fun x H1 => gName i x σ H1 D.nx) := h
  refine wpAny_bind (thn (lc_core (Qf := fun _ s' => SP X pins D .next s') hc hN I hi ok hg ht he hs h fun L C s' m H' I' q hn f => ?_) fun _ s' hq => wpAny_pure (wpAny_pure hq))
  show wpAny _ _ (assign (.Name y py) X.env (.ref L)) _ _ _
  refine wpAny_assign_Name (store_ok2 (v := V.ref L) I' hN hy (.inl hyl) rfl (fun s2 I2 ⟨a, sb, ha⟩ => ?_) (.inr hyl))
  obtain ⟨f0, f1, f2, f3, f4, f5⟩ := f
  have haC : C ≠ a := by
    rcases ha with z | z
    · rw [z]; exact f1
    · exact fun e => f4 y a z e.symm
  refine ⟨m, hn.sameBut sb haC, fun h3 sb3 => ?_⟩
  exact ⟨_, H', I2.turned (t' := s2.toks) (fun b o hb e => (sb3.2 b hb).trans e) f0 f1 f3 f4 f5, q⟩
theorem sw_true {elt : Expr} {gs : List Comprehension} {scope : Scope} {pos py : Pos} {y : Str} {l : Nat} {env : Env} (hk : env.scope.kind = .function) (hy : env.scope.names.lookup y = some .local) (hl : (py.line == pos.line) = true)
    (ha : (scope.names.any fun (n, k) => n == y && (k == .local || k == .cell)) = false) : swapsWith (.ListComp elt gs scope pos) (some (.Name y py)) l env = pure true := by
  have ky : env.kindOf y = some .local := hy
  have hb : env.blockKind = .function := by unfold Env.blockKind; rw [hk]; rfl
  unfold swapsWith
  have hq : (Expr.ListComp elt gs scope pos).pos = pos := rfl
  simp only [hb, ky, ha, hq, hl]
  rfl
end
noncomputable def blkC (N : List Str) (sc scope : Scope) (own : List (Str × Nat)) : Bool :=
  (match scope.kind with | .function => true | _ => false) && (scope.names.all fun y => decide (scope.names.lookup y.1 = some y.2)) && (own.all fun p => decide (N[p.2]? = some p.1)) &&
    (scope.names.all fun y => match y.2 with
      | .free => (match sc.names.lookup y.1 with | some .cell => true | some .free => true | _ => false)
      | .local => decide (y.1 ∈ own.map (·.1)) || decide (y.1 ∉ N)
      | .cell => decide (y.1 ∈ own.map (·.1)) || decide (y.1 ∉ N)
      | _ => true)
theorem blkOk_by {N : List Str} {sc scope : Scope} {own : List (Str × Nat)} (h : blkC N sc scope own = true) : BlkOk N sc scope own := by
  unfold blkC at h
  simp only [Bool.and_eq_true, List.all_eq_true, decide_eq_true_eq] at h
  obtain ⟨⟨⟨h1, h2⟩, h3⟩, h4⟩ := h
  refine ⟨?_, h2, h3, fun y hy e => ?_, fun y hy e => ?_⟩
  · split at h1
    · assumption
    · cases h1
  · have q := h4 y hy
    simp only [e] at q
    split at q <;> first | exact .inl (by assumption) | exact .inr (by assumption) | cases q
  · have q := h4 y hy
    rcases e with e | e <;> (simp only [e, Bool.or_eq_true, decide_eq_true_eq] at q; exact q)
end L2
namespace L2
open PySem PySem.Spec PyProof.Rows
section
variable {prog : Program} {w : World} {A : Around} {R : Result → Shared → Prop} {s : Shared} {elt t0 i0 t1 i1 : Expr} {ifs0 ifs1 : List Expr} {scope : Scope} {pos : Pos} {it acc : Value} {env : Env}
end
section
variable {X : Cx}
end
end L2
namespace L2
open PySem PySem.Spec PyProof.Rows
section
variable {κ : Type} [DecidableEq κ]
noncomputable def valV (kvs : List (κ × V)) (k : κ) : Option V := (kvs.find? fun kv => decide (kv.1 = k)).map (·.2)
noncomputable def putK (kvs : List (κ × V)) (k : κ) (v : V) : List (κ × V) :=
  if (kvs.any fun kv => decide (kv.1 = k)) = true then kvs.map (fun kv => if kv.1 = k then (kv.1, v) else kv) else kvs ++ [(k, v)]
noncomputable def dropK (kvs : List (κ × V)) (k : κ) : List (κ × V) := kvs.filter fun kv => decide (kv.1 ≠ k)
theorem valV_pos {p : κ × V} {r : List (κ × V)} {k : κ} (e : p.1 = k) : valV (p :: r) k = some p.2 := by simp [valV, List.find?_cons, e]
theorem valV_neg {p : κ × V} {r : List (κ × V)} {k : κ} (e : ¬ p.1 = k) : valV (p :: r) k = valV r k := by simp [valV, List.find?_cons, e]
theorem valV_any (k : κ) : ∀ kvs : List (κ × V), (kvs.any fun kv => decide (kv.1 = k)) = (valV kvs k).isSome
  | [] => rfl
  | p :: r => by
    rw [List.any_cons]
    by_cases e : p.1 = k
    · simp only [valV_pos e, decide_eq_true e, Bool.true_or, Option.isSome_some]
    · rw [valV_neg e, decide_eq_false e, Bool.false_or]; exact valV_any k r
theorem valV_map (k j : κ) (y : V) : ∀ kvs : List (κ × V), valV (kvs.map fun kv => if kv.1 = k then (kv.1, y) else kv) j = (valV kvs j).map fun x => if j = k then y else x
  | [] => rfl
  | p :: r => by
    have ih := valV_map k j y r
    rw [List.map_cons]
    by_cases h : p.1 = k
    · rw [if_pos h]
      by_cases e : p.1 = j
      · rw [valV_pos (p := (p.1, y)) e, valV_pos e, Option.map_some, if_pos (e.symm.trans h)]
      · rw [valV_neg (p := (p.1, y)) e, valV_neg e, ih]
    · rw [if_neg h]
      by_cases e : p.1 = j
      · rw [valV_pos (p := p) e, valV_pos e, Option.map_some, if_neg (fun z => h (e.trans z))]
      · rw [valV_neg (p := p) e, valV_neg e, ih]
theorem valV_snoc (k j : κ) (y : V) : ∀ kvs : List (κ × V), valV kvs k = none → valV (kvs ++ [(k, y)]) j = if j = k then some y else valV kvs j
  | [], _ => by
    by_cases e : k = j
    · rw [if_pos e.symm]; exact valV_pos (p := (k, y)) e
    · rw [if_neg (fun z => e z.symm)]; exact valV_neg (p := (k, y)) e
  | p :: r, hn => by
    rw [List.cons_append]
    have hk : ¬ p.1 = k := fun z => by rw [valV_pos z] at hn; cases hn
    rw [valV_neg hk] at hn
    have ih := valV_snoc k j y r hn
    by_cases e : p.1 = j
    · rw [valV_pos e, valV_pos e, if_neg (fun z => hk (e.trans z))]
    · rw [valV_neg e, valV_neg e, ih]
theorem valV_put (kvs : List (κ × V)) (k j : κ) (y : V) : valV (putK kvs k y) j = if j = k then some y else valV kvs j := by
  unfold putK
  by_cases a : (kvs.any fun kv => decide (kv.1 = k)) = true
  · rw [if_pos a, valV_map]
    rw [valV_any] at a
    by_cases e : j = k
    · obtain ⟨x, hx⟩ := Option.isSome_iff_exists.mp a
      rw [if_pos e, e, hx, Option.map_some, if_pos rfl]
    · rw [if_neg e]
      cases valV kvs j with
      | none => rfl
      | some x => rw [Option.map_some, if_neg e]
  · rw [if_neg a]
    refine valV_snoc k j y kvs ?_
    rw [valV_any] at a
    cases q : valV kvs k with
    | none => rfl
    | some x => rw [q] at a; exact (a rfl).elim
theorem length_putK (kvs : List (κ × V)) (k : κ) (v : V) : (putK kvs k v).length ≤ kvs.length + 1 := by
  unfold putK
  split
  · rw [List.length_map]; omega
  · rw [List.length_append, List.length_cons, List.length_nil]; omega
theorem putK_new {kvs : List (κ × V)} {k : κ} (v : V) (h : valV kvs k = none) : putK kvs k v = kvs ++ [(k, v)] := by
  unfold putK
  rw [valV_any, h]
  exact if_neg (by decide)
theorem RelO.isSome_eq {o : Option V} {u : Option Value} (r : RelO o u) : o.isSome = u.isSome := by
  cases o with
  | none => cases u with
    | none => rfl
    | some _ => exact (show False from r).elim
  | some _ => cases u with
    | none => exact (show False from r).elim
    | some _ => rfl
theorem RelO.getD {o : Option V} {u : Option Value} {d : V} {d' : Value} (r : RelO o u) (rd : RelV d d') : RelV (o.getD d) (u.getD d') := by
  cases o with
  | none => cases u with
    | none => exact rd
    | some _ => exact (show False from r).elim
  | some _ => cases u with
    | none => exact (show False from r).elim
    | some _ => exact r
theorem KV.val {kvs : List (κ × V)} {vs : List (κ × Value)} (r : KV kvs vs) (k : κ) : RelO (valV kvs k) (valueAt vs k) := by
  unfold KV at r
  induction r with
  | nil => exact True.intro
  | @cons p q ps qs h t ih =>
    obtain ⟨h1, h2⟩ := h
    by_cases e : p.1 = k
    · have e' : q.1 = k := h1.symm.trans e
      have b : valueAt (q :: qs) k = some q.2 := by simp [valueAt, List.find?_cons, e']
      rw [valV_pos e, b]; exact h2
    · have e' : ¬ q.1 = k := fun z => e (h1.trans z)
      have b : valueAt (q :: qs) k = valueAt qs k := by simp [valueAt, List.find?_cons, e']
      rw [valV_neg e, b]; exact ih
theorem KV.any {kvs : List (κ × V)} {vs : List (κ × Value)} (r : KV kvs vs) (k : κ) : (kvs.any fun kv => decide (kv.1 = k)) = vs.any fun kv => decide (kv.1 = k) := by
  unfold KV at r
  induction r with
  | nil => rfl
  | cons h t ih => rw [List.any_cons, List.any_cons, ih, h.1]
theorem KV.repl {kvs : List (κ × V)} {vs : List (κ × Value)} (r : KV kvs vs) (k : κ) {y : V} {u : Value} (ry : RelV y u) :
    KV (kvs.map fun kv => if kv.1 = k then (kv.1, y) else kv) (vs.map fun kv => if kv.1 = k then (kv.1, u) else kv) := by
  unfold KV at r ⊢
  induction r with
  | nil => exact .nil
  | @cons p q ps qs h t ih =>
    rw [List.map_cons, List.map_cons]
    refine .cons ?_ ih
    obtain ⟨h1, h2⟩ := h
    by_cases e : p.1 = k
    · rw [if_pos e, if_pos (h1.symm.trans e)]; exact ⟨h1, ry⟩
    · rw [if_neg e, if_neg (fun z => e (h1.trans z))]; exact ⟨h1, h2⟩
theorem KV.put {kvs : List (κ × V)} {vs : List (κ × Value)} (r : KV kvs vs) (k : κ) {y : V} {u : Value} (ry : RelV y u) : KV (putK kvs k y) (stored vs k u) := by
  unfold putK stored
  rw [r.any k]
  by_cases e : (vs.any fun kv => decide (kv.1 = k)) = true
  · rw [if_pos e, if_pos e]; exact r.repl k ry
  · rw [if_neg e, if_neg e]; exact Paired.snoc r ⟨rfl, ry⟩
theorem KV.drop {kvs : List (κ × V)} {vs : List (κ × Value)} (r : KV kvs vs) (k : κ) : KV (dropK kvs k) (without vs k) := by
  unfold KV at r ⊢
  unfold dropK without
  induction r with
  | nil => exact .nil
  | @cons p q ps qs h t ih =>
    obtain ⟨h1, h2⟩ := h
    rw [List.filter_cons, List.filter_cons]
    by_cases e : p.1 = k
    · have a : ¬ decide (p.1 ≠ k) = true := by simp [e]
      have b : ¬ decide (q.1 ≠ k) = true := by simp [h1.symm.trans e]
      rw [if_neg a, if_neg b]; exact ih
    · have e' : ¬ q.1 = k := fun z => e (h1.trans z)
      have a : decide (p.1 ≠ k) = true := by simp [e]
      have b : decide (q.1 ≠ k) = true := by simp [e']
      rw [if_pos a, if_pos b]; exact .cons ⟨h1, h2⟩ ih
theorem KV.length {kvs : List (κ × V)} {vs : List (κ × Value)} (r : KV kvs vs) : kvs.length = vs.length := Paired.length r
end
theorem kV_is {P : Program} {w : World} {k : Key} {u : Value} (r : RelV (kV k) u) : (mixKind P w).is k u = true := by
  cases k with
  | inl i => obtain ⟨t, e⟩ := (show ∃ t, u = Value.int i t from r); subst e; exact mixKind_int P w i t
  | inr x => obtain ⟨t, e⟩ := (show ∃ t, u = Value.str x t from r); subst e; exact mixKind_str P w x t
theorem items_are {P : Program} {w : World} : ∀ {ks : List Key} {us : List Value}, Vals (ks.map kV) us → ItemsAre (mixKind P w) ks us
  | [], _, r => by rw [List.map_nil] at r; cases r; exact .nil
  | k :: ks, _, r => by
    rw [List.map_cons] at r
    cases r with
    | cons h t => exact .cons (kV_is h) (items_are t)
noncomputable abbrev KT (H : Hp) : List (List Key × V) → List (List Key × Addr × Value) → Prop := Paired fun p q => p.1 = q.1 ∧ H q.2.1 = some (.tup (p.1.map kV)) ∧ RelV p.2 q.2.2
theorem KT.val {H : Hp} {kvs : List (List Key × V)} {xs : List (List Key × Addr × Value)} (r : KT H kvs xs) (k : List Key) : RelO (valV kvs k) ((atKey xs k).map (·.2)) := by
  induction r with
  | nil => exact True.intro
  | @cons p q ps qs h t ih =>
    obtain ⟨h1, _, h2⟩ := h
    by_cases e : p.1 = k
    · have e' : q.1 = k := h1.symm.trans e
      have b : atKey (q :: qs) k = some q.2 := by simp [atKey, List.find?_cons, e']
      rw [valV_pos e, b]; exact h2
    · have e' : ¬ q.1 = k := fun z => e (h1.trans z)
      have b : atKey (q :: qs) k = atKey qs k := by simp [atKey, List.find?_cons, e']
      rw [valV_neg e, b]; exact ih
theorem KT.repl {H : Hp} {kvs : List (List Key × V)} {xs : List (List Key × Addr × Value)} (r : KT H kvs xs) (k : List Key) {y : V} {u : Value} (ry : RelV y u) :
    KT H (kvs.map fun kv => if kv.1 = k then (kv.1, y) else kv) (xs.map (putAt k u)) := by
  induction r with
  | nil => exact .nil
  | @cons p q ps qs h t ih =>
    rw [List.map_cons, List.map_cons]
    refine .cons ?_ ih
    obtain ⟨h1, h2, h3⟩ := h
    unfold putAt
    by_cases e : p.1 = k
    · rw [if_pos e, if_pos (h1.symm.trans e)]; exact ⟨h1, h2, ry⟩
    · rw [if_neg e, if_neg (fun z => e (h1.trans z))]; exact ⟨h1, h2, h3⟩
theorem KT.put {H : Hp} {kvs : List (List Key × V)} {xs : List (List Key × Addr × Value)} (r : KT H kvs xs) (k : List Key) {b : Addr} {y : V} {u : Value} (hb : H b = some (.tup (k.map kV))) (ry : RelV y u) :
    KT H (putK kvs k y) (storedH xs k b u) := by
  have e : (kvs.any fun kv => decide (kv.1 = k)) = (atKey xs k).isSome := by
    rw [valV_any, (r.val k).isSome_eq, Option.isSome_map]
  unfold putK storedH
  rw [e]
  by_cases q : (atKey xs k).isSome = true
  · rw [if_pos q, if_pos q]; exact r.repl k ry
  · rw [if_neg q, if_neg q]; exact Paired.snoc r ⟨rfl, hb, ry⟩
theorem KT.keeps {H H' : Hp} {kvs : List (List Key × V)} {xs : List (List Key × Addr × Value)} (r : KT H kvs xs) (ht : ∀ b ys, H b = some (.tup ys) → H' b = some (.tup ys)) : KT H' kvs xs :=
  Paired.mapP r fun _ _ z => ⟨z.1, ht _ _ z.2.1, z.2.2⟩
section
variable {P : Program} {w : World} {H : Hp} {h : Heap} {a : Addr}
theorem rd_of {u : HO} (ok : HOk P w H h) (e : Rd H a u) : ObjOk P w H h a u := e.ok ok
theorem dk_rd {kvs : List (Key × V)} (ok : HOk P w H h) (e : Rd H a (.dK kvs)) : kvs.length ≤ sizeLine ∧ (a == sysModules) = false ∧ ∃ vs, KV kvs vs ∧ h.DictOf (mixKind P w) a vs :=
  show ObjOk P w H h a (.dK kvs) from rd_of ok e
theorem dk_of {kvs : List (Key × V)} (ok : HOk P w H h) (e : H a = some (.dK kvs)) : kvs.length ≤ sizeLine ∧ (a == sysModules) = false ∧ ∃ vs, KV kvs vs ∧ h.DictOf (mixKind P w) a vs := dk_rd ok (.inl e)
theorem key_of {ks : List Key} (ok : HOk P w H h) (e : H a = some (.tup (ks.map kV))) : (tupleKind (mixKind P w)).is h ks a := by
  obtain ⟨_, its, r, o, h1, h2, n, h3⟩ := (show ObjOk P w H h a (.tup (ks.map kV)) from ok a _ e)
  exact ⟨o, its.toArray, n, h1, h2, h3, by simpa using items_are r⟩
theorem dt_rd {kvs : List (List Key × V)} (ok : HOk P w H h) (e : Rd H a (.dT kvs)) : kvs.length ≤ sizeLine ∧ (a == sysModules) = false ∧
    ∃ xs, KT H kvs xs ∧ h.DictOfH (tupleKind (mixKind P w)) a xs := by
  obtain ⟨z, y, xs, r, o, es, ep, h1, h2, h3, h4, h5⟩ := (show ObjOk P w H h a (.dT kvs) from rd_of ok e)
  refine ⟨z, y, xs, r, o, es, ep, h1, h2, h3, h4, fun x hx => ?_, h5⟩
  have all : ∀ {l : List (List Key × V)} {m : List (List Key × Addr × Value)}, KT H l m → ∀ x ∈ m, (tupleKind (mixKind P w)).is h x.1 x.2.1 := by
    intro l m q
    induction q with
    | nil => intro x hx; exact nomatch hx
    | @cons p q ps qs hq t ih =>
      intro x hx
      rcases List.mem_cons.mp hx with e | hx
      · subst e
        exact key_of ok (by rw [← hq.1]; exact hq.2.1)
      · exact ih x hx
  exact all r x hx
theorem dt_of {kvs : List (List Key × V)} (ok : HOk P w H h) (e : H a = some (.dT kvs)) : kvs.length ≤ sizeLine ∧ (a == sysModules) = false ∧
    ∃ xs, KT H kvs xs ∧ h.DictOfH (tupleKind (mixKind P w)) a xs := dt_rd ok (.inl e)
end
noncomputable def DGet (H : Hp) (a : Addr) (y : V) (r : Option V) : Prop :=
  (∃ kvs k, Rd H a (.dK kvs) ∧ y = kV k ∧ r = valV kvs k) ∨ ∃ kvs k b, Rd H a (.dT kvs) ∧ y = .ref b ∧ H b = some (.tup (k.map kV)) ∧ r = valV kvs k
noncomputable def DPut (H : Hp) (a : Addr) (y v : V) (H' : Hp) : Prop :=
  (∃ kvs k, H a = some (.dK kvs) ∧ y = kV k ∧ kvs.length < sizeLine ∧ H' = upd H a (.dK (putK kvs k v))) ∨
  ∃ kvs k b, H a = some (.dT kvs) ∧ y = .ref b ∧ H b = some (.tup (k.map kV)) ∧ kvs.length < sizeLine ∧ H' = upd H a (.dT (putK kvs k v))
theorem DGet.k {H : Hp} {a : Addr} {kvs : List (Key × V)} {k : Key} (e : H a = some (.dK kvs)) : DGet H a (kV k) (valV kvs k) := .inl ⟨kvs, k, .inl e, rfl, rfl⟩
theorem DGet.t {H : Hp} {a b : Addr} {kvs : List (List Key × V)} {k : List Key} (e : H a = some (.dT kvs)) (eb : H b = some (.tup (k.map kV))) : DGet H a (.ref b) (valV kvs k) := .inr ⟨kvs, k, b, .inl e, rfl, eb, rfl⟩
theorem DPut.k {H : Hp} {a : Addr} {kvs : List (Key × V)} {k : Key} {v : V} (e : H a = some (.dK kvs)) (hl : kvs.length < sizeLine) : DPut H a (kV k) v (upd H a (.dK (putK kvs k v))) := .inl ⟨kvs, k, e, rfl, hl, rfl⟩
theorem DPut.t {H : Hp} {a b : Addr} {kvs : List (List Key × V)} {k : List Key} {v : V} (e : H a = some (.dT kvs)) (eb : H b = some (.tup (k.map kV))) (hl : kvs.length < sizeLine) :
    DPut H a (.ref b) v (upd H a (.dT (putK kvs k v))) := .inr ⟨kvs, k, b, e, rfl, eb, hl, rfl⟩
section
variable {X : Cx} {pins : List (Addr × Obj)} {σ : St} {H : Hp} {s : Shared} {a : Addr} {y v : V} {u r : Value} {o : Option V} {A : Around} {E : Value → Shared → Prop}
theorem Inv.big (I : Inv X pins σ H s) : sysModules < s.heap.objs.size := by
  have h : mainGlobals < s.heap.objs.size := (I.mod.glob.keeps I.bk).lt
  exact Nat.lt_trans (by decide) h
theorem d_getItem {Q : Value → Shared → Prop} (hu : A.units + 1 < cLine) (I : Inv X pins σ H s) (g : DGet H a y (some v)) (ry : RelV y u) (h : ∀ w' s', Inv X pins σ H s' → RelV v w' → Q w' s') :
    wpAny (model X.prog X.w) A (getItem (.ref a) u) Q E s := by
  rcases g with ⟨kvs, k, e, ey, l⟩ | ⟨kvs, k, b, e, ey, eb, l⟩
  · subst ey
    obtain ⟨z, hd, vs, rel, dd⟩ := dk_rd I.hok e
    obtain ⟨w', hw, rw'⟩ := RelO.some_of (v := v) (o := valueAt vs k) (by rw [l]; exact rel.val k)
    exact wpAny_getItem_of (kV_is ry) dd.mapOf hw (h w' _ (I.tok _) rw')
  · subst ey
    cases (show u = Value.ref b from ry)
    obtain ⟨z, hd, xs, rel, dd⟩ := dt_rd I.hok e
    obtain ⟨w', hw, rw'⟩ := RelO.some_of (v := v) (o := (atKey xs k).map (·.2)) (by rw [l]; exact rel.val k)
    obtain ⟨p, hp, hp2⟩ := Option.map_eq_some_iff.mp hw
    refine wpAny_getItem_heap (tupleKind_room_in1 hu) (key_of I.hok eb) dd hp ?_
    rw [hp2]
    exact h w' _ (I.tok _) rw'
theorem d_notIn {Q : Value → Shared → Prop} (hu : A.units + 1 < cLine) (I : Inv X pins σ H s) (g : DGet H a y o) (ry : RelV y u) (h : ∀ s', Inv X pins σ H s' → Q (.bool (!o.isSome)) s') :
    wpAny (model X.prog X.w) A (compareOp .NotIn u (.ref a)) Q E s := by
  rcases g with ⟨kvs, k, e, ey, l⟩ | ⟨kvs, k, b, e, ey, eb, l⟩
  · subst ey
    obtain ⟨z, hd, vs, rel, dd⟩ := dk_rd I.hok e
    refine wpAny_notIn_of (kV_is ry) hd dd.mapOf ?_
    rw [← (rel.val k).isSome_eq, ← l]
    exact h _ (I.tok _)
  · subst ey
    cases (show u = Value.ref b from ry)
    obtain ⟨z, hd, xs, rel, dd⟩ := dt_rd I.hok e
    refine wpAny_notIn_heap (tupleKind_room_in1 hu) (key_of I.hok eb) hd dd ?_
    have q := (rel.val k).isSome_eq
    rw [Option.isSome_map] at q
    rw [← q, ← l]
    exact h _ (I.tok _)
theorem d_write {h' : Heap} {t' : Nat} {ob : HO} (I : Inv X pins σ H s) (mu : Mut (H a)) (hs : Heap.SameBut a s.heap h') (he : ∃ q, h'.get? a = some q) (new : ObjOk X.prog X.w (upd H a ob) h' a ob) :
    Inv X pins σ (upd H a ob) { s with heap := h', toks := t' } :=
  I.write (x := a) (e := a) mu (.inl rfl) (fun b q hb z => (hs.2 b hb).trans z) he new
theorem dk_new {P : Program} {w : World} {H' : Hp} {h' : Heap} {kvs : List (Key × V)} {vs : List (Key × Value)} (z : kvs.length ≤ sizeLine) (hd : (a == sysModules) = false) (rel : KV kvs vs) (dd : h'.DictOf (mixKind P w) a vs) :
    ObjOk P w H' h' a (.dK kvs) := ⟨z, hd, vs, rel, dd⟩
theorem d_setItem {H' : Hp} {Q : Unit → Shared → Prop} (hu : A.units + 1 < cLine) (I : Inv X pins σ H s) (g : DPut H a y v H') (ry : RelV y u) (rv : RelV v r) (h : ∀ s', Inv X pins σ H' s' → Q () s') :
    wpAny (model X.prog X.w) A (setItem (.ref a) u r) Q E s := by
  rcases g with ⟨kvs, k, e, ey, l, eH⟩ | ⟨kvs, k, b, e, ey, eb, l, eH⟩
  · subst ey eH
    obtain ⟨z, hd, vs, rel, dd⟩ := dk_of I.hok e
    have hz : vs.length ≤ sizeLine := by rw [← rel.length]; exact z
    have hl : (putK kvs k v).length ≤ sizeLine := by have := length_putK kvs k v; omega
    refine wpAny_setItem_pairs (hsz := hz) (kV_is ry) dd fun h' dd' hs => h _ ?_
    have he : ∃ q, h'.get? a = some q := let ⟨q, _, _, hq, _⟩ := dd'; ⟨q, hq⟩
    exact d_write I (by rw [e]; exact True.intro) hs he (dk_new hl hd (rel.put k rv) dd')
  · subst ey eH
    cases (show u = Value.ref b from ry)
    obtain ⟨z, hd, xs, rel, dd⟩ := dt_of I.hok e
    have hz : xs.length ≤ sizeLine := by rw [← Paired.length rel]; exact z
    have hl : (putK kvs k v).length ≤ sizeLine := by have := length_putK kvs k v; omega
    refine wpAny_setItem_heap (hsz := hz) (tupleKind_room_in1 hu) (key_of I.hok eb) dd fun h' dd' hs => h _ ?_
    obtain ⟨q, es, ep, hq, h2, h3, h4, _, h5⟩ := dd'
    refine d_write I (by rw [e]; exact True.intro) hs ⟨q, hq⟩ ⟨hl, hd, _, (rel.put k eb rv).keeps fun c ys ec => ?_, q, es, ep, hq, h2, h3, h4, h5⟩
    rw [upd_ne (ne_of ec e (fun z => nomatch z))]
    exact ec
end
section
variable {X : Cx} {pins : List (Addr × Obj)} {σ : St} {H : Hp} {s : Shared} {a : Addr} {kvs : List (Key × V)} {k : Key} {u : Value} {A : Around} {E : Value → Shared → Prop}
end
noncomputable def NoSl (i : Expr) : Prop := ∀ ov iv, subscripted i false ov iv = operate [ov, iv] (getItem ov iv)
theorem subD_of {prog : Program} {w : World} {A : Around} {E : Value → Shared → Prop} {s : Shared} {env : Env} {value slice : Expr} {pos : Pos} {T id : String} {Q : Value → Shared → Prop}
    (hl : typeLookup (.type T) "__getitem__" = pure (some (.builtin id))) (hs : NoSl slice)
    (h : wpAny (model prog w) A (eval value env) (fun o s₁ => wpAny (model prog w) A (eval slice env) (fun i s₂ => s₂.TypeIs o T ∧ wpAny (model prog w) A (getItem o i) Q E s₂) E s₁) E s) :
    wpAny (model prog w) A (eval (.Subscript value slice pos) env) Q E s := by
  refine Subscript_ (wpAny_mono h (fun o s₁ h₁ => wpAny_mono h₁ (fun i s₂ h₂ => ?_) fun _ _ x => x) fun _ _ x => x)
  obtain ⟨hT, h₂⟩ := h₂
  unfold subscriptTail
  refine wpAny_bind ?_
  rw [getitemInPython_of_ne hT.not_modules]
  refine wpAny_bind (wpAny_specialOf hT hl ?_)
  have fin : wpAny (model prog w) A (subscripted slice false o i) (fun r s₃ => wpAny (model prog w) A (letTemporaryGo value o r >>= fun _ => pure r) Q E s₃) E s₂ := by
    rw [hs o i]
    exact wpAny_operating (wpAny_mono h₂ (fun r s₃ h₃ => wpAny_bind (wpAny_letTemporaryGo (wpAny_pure h₃))) fun _ _ x => x)
  first
    | exact wpAny_pure (wpAny_bind fin)
    | exact wpAny_bind (wpAny_pure (wpAny_bind fin))
    | exact wpAny_bind fin
theorem dict_typeIs {X : Cx} {pins : List (Addr × Obj)} {σ : St} {H : Hp} {s : Shared} {a : Addr} {y : V} {o : Option V} (I : Inv X pins σ H s) (g : DGet H a y o) : s.TypeIs (.ref a) "dict" := by
  rcases g with ⟨kvs, k, e, _, _⟩ | ⟨kvs, k, b, e, _, _, _⟩
  · obtain ⟨_, _, vs, _, dd⟩ := dk_rd I.hok e
    exact dd.typeIs
  · obtain ⟨_, _, xs, _, dd⟩ := dt_rd I.hok e
    exact dd.typeIs
noncomputable def tDGet (td ty : TE) : TE := fun σ H Q => td σ H fun x H1 => ty σ H1 fun y H2 => ∃ a v, x = .ref a ∧ DGet H2 a y (some v) ∧ Q v H2
noncomputable def tDIn (ty td : TE) : TE := fun σ H Q => ty σ H fun y H1 => td σ H1 fun x H2 => ∃ a o, x = .ref a ∧ DGet H2 a y o ∧ Q (.bl o.isSome) H2
noncomputable def tDNotIn (ty td : TE) : TE := fun σ H Q => ty σ H fun y H1 => td σ H1 fun x H2 => ∃ a o, x = .ref a ∧ DGet H2 a y o ∧ Q (.bl (!o.isSome)) H2
noncomputable def sDPut (td ty tv : TE) : TS := fun D σ H => tv σ H fun v H1 => td σ H1 fun x H2 => ty σ H2 fun y H3 => ∃ a H4, x = .ref a ∧ DPut H3 a y v H4 ∧ D.nx σ H4
section
variable {X : Cx} {o i e value : Expr} {pos pos' tpos : Pos} {td ty tv : TE}
theorem pe_dget (hu : X.A.units + 1 < cLine) (ho : PE X o td) (hi : PE X i ty) (hs : NoSl i) : PE X (.Subscript o i pos) (tDGet td ty) := by
  intro pins s σ H Q I h
  refine subD_of PySem.F.slot_dict_getitem.lookup hs (thn (ho pins s σ H _ I h) fun u s1 ⟨x, H1, I1, rx, q1⟩ => thn (hi pins s1 σ H1 _ I1 q1) fun iv s2 ⟨y, H2, I2, ry, a, v, ex, g, q2⟩ => ?_)
  subst ex
  obtain rfl : u = Value.ref a := rx
  exact ⟨dict_typeIs I2 g, d_getItem hu I2 g ry fun w' s3 I3 rw' => ⟨v, H2, I3, rw', q2⟩⟩
theorem pc_dnotin (hu : X.A.units + 1 < cLine) (hi : PE X i ty) (ho : PE X o td) : PC X .NotIn i o (tDNotIn ty td) := by
  intro pins s σ H Q I h
  refine thn (hi pins s σ H _ I h) fun iv s1 ⟨y, H1, I1, ry, q1⟩ => thn (ho pins s1 σ H1 _ I1 q1) fun u s2 ⟨x, H2, I2, rx, a, ov, ex, g, q2⟩ => ?_
  subst ex
  obtain rfl : u = Value.ref a := rx
  exact d_notIn hu I2 g ry fun s3 I3 => ⟨.bl (!ov.isSome), H2, I3, rfl, q2⟩
theorem ps_dput (hu : X.A.units + 1 < cLine) (ho : PE X o td) (hi : PE X i ty) (hv : PE X value tv) (hs : swapsWith value (some (.Subscript o i pos')) pos.line X.env = pure false) :
    PS X (.Assign [.Subscript o i pos'] value pos) (sDPut td ty tv) := by
  intro pins s σ H D I h
  refine wpAny_Assign_Subscript (thn (hv pins s σ H _ I h) fun r s1 ⟨v, H1, I1, rv, q1⟩ => thn (ho pins s1 σ H1 _ I1 q1) fun u s2 ⟨x, H2, I2, rx, q2⟩ => thn (hi pins s2 σ H2 _ I2 q2) fun iv s3 ⟨y, H3, I3, ry, a, H4, ex, g, q3⟩ => ?_) hs
  subst ex
  obtain rfl : u = Value.ref a := rx
  exact d_setItem hu I3 g ry rv fun s4 I4 => ⟨σ, H4, I4, q3⟩
end
theorem dk_empty {P : Program} {w : World} {H : Hp} (h : Heap) (hb : sysModules < h.objs.size) : ObjOk P w H (h.push { cls := .type "dict", data := .dict #[] }) h.objs.size (.dK []) :=
  ⟨Nat.zero_le _, beq_eq_false_iff_ne.mpr (Ne.symm (Nat.ne_of_lt hb)), [], .nil, Heap.DictOf.new h⟩
noncomputable def tDNewK : TE := fun _ H Q => ∀ p, H p = none → Q (.ref p) (upd H p (.dK []))
section
variable {X : Cx} {pos : Pos}
theorem pe_dnewK : PE X (.Dict [] [] pos) tDNewK := fun pins s σ H Q I h =>
  wpAny_Dict_empty ⟨.ref s.heap.objs.size, _, I.laid (a := s.heap.objs.size) (o := .dK []) (t' := s.toks) (fun _ _ q => Heap.get?_push_of_some _ q) (Nat.le_refl _) (dk_empty s.heap I.big), rfl, h _ (I.hok.fresh (Nat.le_refl _))⟩
end
structure M2 (X : Cx) (o : Expr) (m : Str) (apos : Pos) (e f : Expr) (cpos : Pos) : Prop where
  base : attributeBase o m X.env (eval o X.env) = eval o X.env
  few : ((backTo cpos (starEach [e, f] X.env)).all (fun x => !x.1) && (backToKw cpos (keywordEach [] X.env)).all (fun x => x.1.isSome)
    && decide (([e, f] : List Expr).length + ([] : List Keyword).length + (if ([] : List Keyword).isEmpty then 0 else 1) < 30)) = true
  line : (apos.endLine == cpos.line) = true
  trees : backTo cpos (starEach [e, f] X.env) = [(false, eval e X.env), (false, eval f X.env)]
noncomputable def IsD (H : Hp) (a : Addr) : Prop := (∃ kvs, Rd H a (.dK kvs)) ∨ ∃ kvs, Rd H a (.dT kvs)
theorem isD_at {X : Cx} {pins : List (Addr × Obj)} {σ : St} {H : Hp} {s : Shared} {a : Addr} (I : Inv X pins σ H s) (d : IsD H a) :
    s.TypeIs (.ref a) "dict" ∧ (∀ b, Value.ref a = .ref b → ∃ ob, s.heap.get? b = some ob ∧ ob.dict = none) ∧ (a == sysModules) = false := by
  rcases d with ⟨kvs, e⟩ | ⟨kvs, e⟩
  · obtain ⟨_, hd, vs, _, dd⟩ := dk_rd I.hok e
    refine ⟨dd.typeIs, fun b q => ?_, hd⟩
    cases q
    obtain ⟨ob, _, _, h1, h2, _⟩ := dd
    exact ⟨ob, h1, h2.2.1⟩
  · obtain ⟨_, hd, xs, _, dd⟩ := dt_rd I.hok e
    refine ⟨dd.typeIs, fun b q => ?_, hd⟩
    cases q
    obtain ⟨ob, _, _, h1, h2, _⟩ := dd
    exact ⟨ob, h1, h2.2.1⟩
section
variable {X : Cx} {pins : List (Addr × Obj)} {σ : St} {H : Hp} {s : Shared} {a : Addr} {y d : V} {u r : Value} {o : Option V} {A : Around} {E : Value → Shared → Prop}
theorem d_get2 {Q : Value → Shared → Prop} (hu : A.units + 1 < cLine) (I : Inv X pins σ H s) (g : DGet H a y o) (ry : RelV y u) (rd : RelV d r) (h : ∀ w' s', Inv X pins σ H s' → RelV (o.getD d) w' → Q w' s') :
    wpAny (model X.prog X.w) A (call (.builtin "dict.get") [.ref a, u, r]) Q E s := by
  rcases g with ⟨kvs, k, e, ey, l⟩ | ⟨kvs, k, b, e, ey, eb, l⟩
  · subst ey
    obtain ⟨z, hd, vs, rel, dd⟩ := dk_rd I.hok e
    refine call_meetsIn PySem.F.slot_dict_get dd.typeIs PySem.F.entry_dict_get (PySem.F.args_dict_get_3 _ _ _) (meets_dict_get_default (mixKind X.prog X.w) a (kV_is ry) hd r) ⟨_, dd.mapOf, h _ _ (I.tok _) ?_⟩
    rw [l]
    exact (rel.val k).getD rd
  · subst ey
    cases (show u = Value.ref b from ry)
    obtain ⟨z, hd, xs, rel, dd⟩ := dt_rd I.hok e
    refine call_meetsIn PySem.F.slot_dict_get dd.typeIs PySem.F.entry_dict_get (PySem.F.args_dict_get_3 _ _ _) (meetsH_dict_get_default (tupleKind (mixKind X.prog X.w)) a b hd r) ⟨tupleKind_room_in1 hu, k, xs, key_of I.hok eb, dd, h _ _ (I.tok _) ?_⟩
    rw [l]
    exact (rel.val k).getD rd
end
noncomputable def tDGet1 (td ty : TE) : TE := fun σ H Q => td σ H fun x H1 => ∃ a, x = .ref a ∧ IsD H1 a ∧ ty σ H1 fun y H2 => ∃ o, DGet H2 a y o ∧ Q (o.getD .non) H2
noncomputable def tDGet2 (td ty tx : TE) : TE := fun σ H Q => td σ H fun x H1 => ∃ a, x = .ref a ∧ IsD H1 a ∧ ty σ H1 fun y H2 => tx σ H2 fun z H3 => ∃ o, DGet H3 a y o ∧ Q (o.getD z) H3
section
variable {X : Cx} {o e f : Expr} {apos cpos : Pos} {td ty tx : TE}
theorem pe_dget2 (hu : X.A.units + 1 < cLine) (ho : PE X o td) (he : PE X e ty) (hf : PE X f tx) (m : M2 X o "get" apos e f cpos) : PE X (.Call (.Attribute o "get" apos) [e, f] [] cpos) (tDGet2 td ty tx) := by
  intro pins s σ H Q I h
  refine wpAny_Call_method m.base m.few m.line PySem.F.plainAttrs_dict PySem.F.slot_dict_get PySem.F.type_dict_get (thn (ho pins s σ H _ I h) fun u s1 ⟨x, H1, I1, rx, a, ex, d, q1⟩ => ?_)
  subst ex
  obtain rfl : u = Value.ref a := rx
  obtain ⟨t1, t2, _⟩ := isD_at I1 d
  refine ⟨t1, t2, ?_⟩
  rw [m.trees]
  refine Calls.callWith_builtin rfl (Calls.evalArgs_plain (Calls.spliced_cons (thn (he pins s1 σ H1 _ I1 q1) fun iv s2 ⟨y, H2, I2, ry, q2⟩ =>
    Calls.spliced_cons (thn (hf pins s2 σ H2 _ I2 q2) fun fv s3 ⟨z, H3, I3, rz, ov, g, q3⟩ => Calls.spliced_nil ?_))))
  exact d_get2 hu I3 g ry rz fun w' s4 I4 rw' => ⟨_, H3, I4, rw', q3⟩
end
section
variable {X : Cx} {pins : List (Addr × Obj)} {σ : St} {H : Hp} {s : Shared} {a : Addr} {kvs : List (Key × V)} {A : Around} {E : Value → Shared → Prop}
end
section
variable {X : Cx} {pins : List (Addr × Obj)} {σ : St} {H : Hp} {s : Shared} {a : Addr} {y : V} {u : Value} {A : Around} {E : Value → Shared → Prop}
end
end L2
namespace L2
open PySem PySem.Spec PyProof.Rows
section
variable {prog : Program} {w : World} {A : Around} {E : Value → Shared → Prop}
end
section
variable {X : Cx}
theorem pairs_of {pins : List (Addr × Obj)} {σ : St} {H : Hp} {s : Shared} (I : Inv X pins σ H s) : ∀ {ps : List Addr} {kvs : List (Key × V)}, Paired (fun p kv => SqT X.K H p [kV kv.1, kv.2]) ps kvs →
    ∃ prs : List (Key × Value), KV kvs prs ∧ prs.length = ps.length ∧ ∀ (j : Nat) (q : Key × Value), prs[j]? = some q → ∃ (b : Addr) (u : Value), ps[j]? = some b ∧ IsTup s.heap b #[u, q.2] ∧ keyIs q.1 u = true
  | _, _, .nil => ⟨[], .nil, rfl, fun j q e => by simp at e⟩
  | _, _, .cons (a := p) (b := kv) h t => by
    obtain ⟨prs, r, hl, hp⟩ := pairs_of I t
    obtain ⟨its, rv, ht, _⟩ := I.tuple h
    obtain ⟨u, y, ei, ru, ry⟩ := vals2 rv
    subst ei
    refine ⟨(kv.1, y) :: prs, .cons ⟨rfl, ry⟩ r, by rw [List.length_cons, List.length_cons, hl], fun j q e => ?_⟩
    cases j with
    | zero =>
      have e' : (kv.1, y) = q := Option.some.inj e
      subst e'
      exact ⟨p, u, rfl, ht, kV_is (P := X.prog) (w := X.w) ru⟩
    | succ j =>
      obtain ⟨b, u', e1, e2, e3⟩ := hp j q (by simpa using e)
      exact ⟨b, u', by simpa using e1, e2, e3⟩
end
end L2
namespace L2
open PySem PySem.Spec PyProof.Rows
theorem boot_reversed5 : bootBuiltins "reversed" = some (.type "reversed") := by decide +kernel
section
variable {X : Cx} {pins : List (Addr × Obj)} {σ : St} {H : Hp} {s : Shared} {h' : Heap}
theorem Inv.turnedL {t' : Nat} {ch : List Addr} (I : Inv X pins σ H s) (k : ∀ b o, b ∉ ch → s.heap.get? b = some o → h'.get? b = some o) (hf : ∀ b ∈ ch, FpOk X pins H b) : Inv X pins σ H { s with heap := h', toks := t' } := by
  have nit : ∀ b u, H b = some u → b ∉ ch := fun b u e z => by
    have q := (hf b z).1
    rw [q] at e; cases e
  refine I.step (g' := s.gens) (d' := s.drawn) (ch := ch) (fun b hb => ⟨(hf b hb).2.2.2.1, (hf b hb).2.1, (hf b hb).2.2.2.2.1, (hf b hb).2.2.2.2.2⟩) (fun b o _ _ hc e _ => k b o hc e) (fun b o _ _ hc e _ => ⟨o.slots, k b o hc e⟩)
    (fun _ _ _ _ n => n) (fun b o hc e => ⟨o, k b o hc e⟩) (fun _ _ e => e) (fun _ _ _ e => e) (fun b ps e => ⟨#[], by rw [e]; simp⟩) (fun m hm => ?_) (fun b u e => ?_) I.bare
  · obtain ⟨o, es, ep, ho, r⟩ := hm
    exact ⟨o, es, ep, k _ o (fun z => (hf _ z).2.1 rfl) ho, r⟩
  · refine (I.hok b u e).stay (fun c v hc q => k c v ?_ q) (fun _ q => q) fun _ _ q => q
    rcases hc with z | z
    · rw [z]; exact nit b u e
    · exact nit c _ z
theorem Inv.turnedNew {t' : Nat} {ch : List Addr} {T : Addr} {ob : HO} (I : Inv X pins σ H s) (k : ∀ b o, b ∉ ch → s.heap.get? b = some o → h'.get? b = some o) (hf : ∀ b ∈ ch, FpOk X pins H b) (hT : s.heap.objs.size ≤ T)
    (new : ObjOk X.prog X.w (upd H T ob) h' T ob) : Inv X pins σ (upd H T ob) { s with heap := h', toks := t' } := by
  have hn : H T = none := I.hok.fresh hT
  have nit : ∀ b u, H b = some u → b ∉ ch := fun b u e z => by
    have q := (hf b z).1
    rw [q] at e; cases e
  refine I.step (g' := s.gens) (d' := s.drawn) (ch := ch) (fun b hb => ⟨(hf b hb).2.2.2.1, (hf b hb).2.1, (hf b hb).2.2.2.2.1, (hf b hb).2.2.2.2.2⟩) (fun b o _ _ hc e _ => k b o hc e) (fun b o _ _ hc e _ => ⟨o.slots, k b o hc e⟩)
    (fun b o _ e n => ?_) (fun b o hc e => ⟨o, k b o hc e⟩) (fun b xs e => ?_) (fun b o u e => ?_) (fun b ps e => ⟨#[], ?_⟩) (fun m hm => ?_) (fun b u e => ?_) I.bare
  · rw [upd_ne (Nat.ne_of_lt (Nat.lt_of_lt_of_le (Heap.lt_size e) hT))]; exact n
  · rw [upd_ne (ne_of_none e hn)]; exact e
  · rw [upd_ne (ne_of_none e hn)]; exact e
  · rw [upd_ne (ne_of_none e hn), e]; simp
  · obtain ⟨o, es, ep, ho, r⟩ := hm
    exact ⟨o, es, ep, k _ o (fun z => (hf _ z).2.1 rfl) ho, r⟩
  · by_cases hb : b = T
    · subst hb
      rw [upd_same] at e
      cases e
      exact new
    · rw [upd_ne hb] at e
      refine (I.hok b u e).stay (fun c v hc q => k c v ?_ q) (fun c q => by rw [upd_ne (ne_of_none q hn)]; exact q) fun c xs q => by rw [upd_ne (ne_of_none q hn)]; exact q
      rcases hc with z | z
      · rw [z]; exact nit b u e
      · exact nit c _ z
end
section
variable {X : Cx}
theorem pi_one {tg : Expr} {pins : List (Addr × Obj)} {σ : St} {H : Hp} {s : Shared} {R : It → Hp → Prop} {J : It} {tn : Nat → Heap → Prop} {tk : Nat} (I : Inv X pins σ H s) (o : Obj)
    (T : Turn X.prog X.w X.K tg J [s.heap.objs.size] s.heap.objs.size tn) (st : tn 0 (s.heap.push o)) (q : R J H) : PIE X pins σ tg R (.ref s.heap.objs.size) { s with heap := s.heap.push o, toks := tk } := by
  refine ⟨s.heap.objs.size, [s.heap.objs.size], tn, J, H, rfl, I.kept fun b ob e => Heap.get?_push_of_some _ e, T, st, fun b hb => ?_, q⟩
  have e : b = s.heap.objs.size := by simpa using hb
  subst e
  exact I.fpOk (Nat.le_refl _) (I.hok.fresh (Nat.le_refl _))
end
noncomputable def Itc (lo c : Int) (n : Nat) : It := ⟨fun i _ => i < n, fun i H x H' => H' = H ∧ x = .int (lo + (i : Nat) * c), fun i _ => n ≤ i⟩
theorem turn_rangeC {P : Program} {w : World} {K : PySem.W.Frag} {tg : Expr} (it : Addr) (lo c : Int) (n : Nat) : Turn P w K tg (Itc lo c n) [it] it (fun i h => IsRangeIter h it (lo + (i : Nat) * c) ((n : Int) - (i : Nat)) c) where
  mem := by simp
  obj := fun i h st b hb => by
    have e : b = it := by simpa using hb
    subst e
    exact ⟨_, st, fun v z => nomatch z⟩
  keep := fun i h h' st k => k it (by simp) _ st
  item := by
    intro X hP hw hK hc i pins s σ H E I hf st hg
    subst hP hw hK
    obtain ⟨f0, f1, f2, f3, f4, f5⟩ := hf it (by simp)
    have W := Walks.range (prog := X.prog) (w := X.w) (I.ok.hd hc) it lo c n
    refine W.item i s _ _ hg st fun v h' tk hv st' kk => ?_
    obtain ⟨t, rfl⟩ := hv
    have I1 : Inv X pins σ H { s with heap := h', toks := tk } := I.turned (fun b o hb e => kk b o (by simpa using hb) e) f0 f1 f3 f4 f5
    exact ⟨_, rfl, go_of (s := { s with heap := h', toks := tk }) (n := "range_iterator") st' rfl rfl (by decide) ⟨.int (lo + (i : Nat) * c), H, I1, ⟨t, rfl⟩, ⟨rfl, rfl⟩, st', fun b hb => (hf b hb).1⟩⟩
  done := by
    intro X hP hw hK hc i pins s σ H E I hf st hg
    subst hP hw hK
    obtain ⟨f0, f1, f2, f3, f4, f5⟩ := hf it (by simp)
    exact wpAny_pyNext_range_end (I.ok.hd hc) st (by have : n ≤ i := hg; omega) fun h' eb => ⟨rfl, I.turned (t' := s.toks) (fun b o hb e => eb b o hb e) f0 f1 f3 f4 f5⟩
  self := fun A i s Q E st h => wpAny_pyIter_rangeiter st h
noncomputable def RgC (i j c : Int) (n : Nat) : Prop := c ≠ 0 ∧ c.natAbs < 1073741824 ∧ Builtin.Range.small i j c = true ∧ Builtin.Range.rangeSize i j c = n
theorem RgC.neg {i j : Int} (ha : -(2 ^ 62) ≤ i) (ha' : i < 2 ^ 62) (hb : -(2 ^ 62) ≤ j) (hb' : j < 2 ^ 62) : RgC i j (-1) (i - j).toNat :=
  ⟨by decide, by decide, PySem.W.small_down ha ha' hb hb', PySem.W.rangeSize_downNat i j⟩
noncomputable def iRng3 (ta : TA) : TI := fun σ H R => ta σ H fun vs H1 => ∃ (i j c : Int) (n : Nat), vs = [.int i, .int j, .int c] ∧ RgC i j c n ∧ R (Itc i c n) H1
section
variable {X : Cx} {tg : Expr}
theorem pi_range3 {a b c : Expr} {ta : TA} {p pos : Pos} (hg : Gl X "range") (hm : X.mg "range" = none) (ha : PA X [a, b, c] ta)
    (hs : starEach [a, b, c] X.env = (false, eval a X.env) :: starEach [b, c] X.env := by rfl) (hpl : (backTo pos (starEach [b, c] X.env)).any (·.1) = false := by rfl) :
    PI X tg (.Call (.Name "range" p) [a, b, c] [] pos) (iRng3 ta) := by
  intro pins s σ H R I h
  refine Call_ (ld_blt I hg hm boot_range (PyProof.Rows.callWith_type1 (thn (ha pos pins s σ H _ I h) fun us s1 ⟨vs, H1, I1, r1, q1⟩ => ?_) hs hpl))
  obtain ⟨i, j, k, n, e, ⟨c0, c1, c2, c3⟩, q⟩ := q1
  subst e
  cases r1 with
  | cons r rr =>
    cases rr with
    | cons r' rr =>
      cases rr with
      | cons r'' rr =>
        cases rr
        obtain ⟨t, rfl⟩ := r
        obtain ⟨t', rfl⟩ := r'
        obtain ⟨t'', rfl⟩ := r''
        refine call_range_3 c0 ?_ (.inl (PyProof.noPylong_small c1))
        refine wpAny_pyIter_range (IsRange.new ..) c2 ?_
        have I2 : Inv X pins σ H1 { s1 with heap := s1.heap.push { cls := .type "range", data := .fields #[.int i t, .int j t', .int k t''] } } := I1.kept (t' := s1.toks) fun b o e => Heap.get?_push_of_some _ e
        refine pi_one (tk := s1.toks) I2 _ (turn_rangeC _ i k n) ?_ q
        have e1 : i + ((0 : Nat) : Int) * k = i := by simp
        have e2 : (n : Int) - ((0 : Nat) : Int) = Builtin.Range.rangeSize i j k := by rw [c3]; simp
        show IsRangeIter _ _ (i + ((0 : Nat) : Int) * k) ((n : Int) - ((0 : Nat) : Int)) k
        rw [e1, e2]
        exact Heap.get?_push_size _ rfl
end
theorem for_rangeC {lo c : Int} {n : Nat} {g : TG} {tb : TS} {D : Ends} {σ : St} {H : Hp} (Pv : Nat → St → Hp → Prop) (h0 : Pv 0 σ H)
    (hs : ∀ i σ H, i < n → Pv i σ H → g (.int (lo + (i : Nat) * c)) σ H fun σ2 H2 => tb { D with nx := Pv (i + 1), ct := Pv (i + 1), bk := D.nx } σ2 H2) (hd : ∀ σ H, Pv n σ H → D.nx σ H) :
    ∃ W : Nat → Nat → St → Hp → Prop, (∃ m, W 0 m σ H) ∧ ∀ i m σ H, W i m σ H →
      ((Itc lo c n).stop i H ∧ D.nx σ H) ∨ ((Itc lo c n).go i H ∧ ∃ N : St → Hp → Prop, (∀ σ' H', N σ' H' → ∃ m', m' < m ∧ W (i + 1) m' σ' H') ∧ ∀ x H', (Itc lo c n).yld i H x H' → g x σ H' fun σ2 H2 => tb { D with nx := N, ct := N, bk := D.nx } σ2 H2) := by
  refine ⟨fun i m σ H => m = n - i ∧ i ≤ n ∧ Pv i σ H, ⟨n, by simp, Nat.zero_le _, h0⟩, ?_⟩
  rintro i m σ H ⟨rfl, hi, p⟩
  by_cases hlt : i < n
  · refine .inr ⟨hlt, Pv (i + 1), fun σ' H' p' => ⟨n - (i + 1), by omega, rfl, hlt, p'⟩, fun x H' y => ?_⟩
    obtain ⟨e, y⟩ := y
    subst e y
    exact hs i σ _ hlt p
  · have e : i = n := by omega
    subst e
    exact .inl ⟨Nat.le_refl _, hd σ H p⟩
section
variable {X : Cx} {tg : Expr}
end
section
variable {prog : Program} {w : World} {A : Around} {E : Value → Shared → Prop} {s : Shared}
end
section
variable {X : Cx} {pins : List (Addr × Obj)} {σ : St} {H : Hp} {s : Shared} {d : Addr} {o : Obj}
end
section
variable {P : Program} {w : World} {K : PySem.W.Frag} {tg : Expr} {d : Addr} {o : Obj} {es : Array DictEntry} {ep : Nat}
end
section
variable {X : Cx} {tg e : Expr} {td : TE} {apos cpos : Pos}
end
noncomputable def Ite (K : PySem.W.Frag) (a : Addr) : It :=
  ⟨fun i H => ∃ (xs : List V) (x : V), SqL K H a xs ∧ xs[i]? = some x, fun i H v H' => ∃ T x, v = .ref T ∧ H T = none ∧ H' = upd H T (.tup [.int (i : Nat), x]) ∧ ∀ xs, SqL K H a xs → xs[i]? = some x, fun i H => ∃ xs : List V, SqL K H a xs ∧ xs.length ≤ i⟩
theorem turn_enum {P : Program} {w : World} {K : PySem.W.Frag} {elts : List Expr} {kk : Nat} {tpos : Pos} (a e it : Addr) :
    Turn P w K (.Tuple elts kk tpos) (Ite K a) [e, it] e (fun i h => (∃ old, IsEnum h e it ((i : Nat) : Int) old) ∧ h.IsListIter it a i ∧ e ≠ it) where
  mem := by simp
  obj := fun i h st b hb => by
    obtain ⟨⟨old, he⟩, ⟨o, ho, hc, hd⟩, _⟩ := st
    have e' : b = e ∨ b = it := by simpa using hb
    rcases e' with z | z
    · rw [z]; exact ⟨_, he, fun v q => nomatch q⟩
    · rw [z]; exact ⟨o, ho, fun v q => by rw [hd] at q; cases q⟩
  keep := fun i h h' st k => let ⟨⟨old, he⟩, hi, hne⟩ := st; ⟨⟨old, k e (by simp) _ he⟩, hi.at fun o q => k it (by simp) o q, hne⟩
  item := by
    intro X hP hw hK hc i pins s σ H E I hf st hg
    subst hP hw hK
    obtain ⟨⟨old, he⟩, hit, hne⟩ := st
    obtain ⟨xs, x, hq, hx⟩ := hg
    obtain ⟨its, rv, p, hz⟩ := I.list hq
    obtain ⟨u, hu, ru⟩ := rv.get hx
    have hel : e < s.heap.objs.size := Heap.lt_size he
    have hil : it < s.heap.objs.size := by obtain ⟨_, q, _⟩ := hit; exact Heap.lt_size q
    refine wpAny_pyNext_enum_item he hit p.isList (x := u) (by simpa using hu) hne fun h' ho hit' hT hsz hk => ?_
    refine ⟨_, rfl, wpAny_letOwnedTupleGo_enum (s := { s with heap := h', toks := s.toks + 1 }) ho fun h'' he' sb => ?_⟩
    have hT2 : h''.get? s.heap.objs.size = some { cls := .type "tuple", data := .seq #[.int i s.toks, u] } := (sb.2 _ (Nat.ne_of_gt hel)).trans hT
    have new : ObjOk X.prog X.w (upd H s.heap.objs.size (.tup [.int (i : Nat), x])) h'' s.heap.objs.size (.tup [.int (i : Nat), x]) :=
      ⟨by show 2 ≤ sizeLine; decide, [.int i s.toks, u], .cons ⟨_, rfl⟩ (.cons ru .nil), ⟨_, hT2, rfl, _, rfl⟩⟩
    have I1 : Inv X pins σ (upd H s.heap.objs.size (.tup [.int (i : Nat), x])) { s with heap := h'', toks := s.toks + 1 } :=
      I.turnedNew (ch := [e, it]) (fun b ob hb q => (sb.2 b (fun z => hb (by simp [z]))).trans (hk b ob (fun z => hb (by simp [z])) (fun z => hb (by simp [z])) q)) hf (Nat.le_refl _) new
    refine ⟨.ref s.heap.objs.size, _, I1, rfl, ⟨_, x, rfl, I.hok.fresh (Nat.le_refl _), rfl, fun ys hy => by rw [I.list_inj hy hq]; exact hx⟩, ⟨⟨u, ?_⟩, hit'.at fun o q => (sb.2 it (Ne.symm hne)).trans q, hne⟩, fun b hb => ?_⟩
    · have e1 : ((i + 1 : Nat) : Int) = (i : Int) + 1 := by omega
      rw [e1]; exact he'
    · have hb' : b < s.heap.objs.size := by
        have e' : b = e ∨ b = it := by simpa using hb
        rcases e' with z | z
        · rw [z]; exact hel
        · rw [z]; exact hil
      rw [upd_ne (Nat.ne_of_lt hb')]
      exact (hf b hb).1
  done := by
    intro X hP hw hK hc i pins s σ H E I hf st hg
    subst hP hw hK
    obtain ⟨⟨old, he⟩, hit, hne⟩ := st
    obtain ⟨xs, hq, hx⟩ := hg
    obtain ⟨its, rv, p, hz⟩ := I.list hq
    obtain ⟨f0, f1, f2, f3, f4, f5⟩ := hf it (by simp)
    have hl := rv.length
    exact wpAny_pyNext_enum_end (I.ok.hd hc) he hit p.isList (by simp; omega) fun h' eb => ⟨rfl, I.turned (t' := s.toks) (fun b o hb q => eb b o hb q) f0 f1 f3 f4 f5⟩
  self := fun A i s Q E st h => let ⟨⟨_, he⟩, _⟩ := st; wpAny_pyIter_enum he h
noncomputable def iEnum (K : PySem.W.Frag) (ta : TA) : TI := fun σ H R => ta σ H fun vs H1 => ∃ a xs, vs = [.ref a] ∧ SqL K H1 a xs ∧ R (Ite K a) H1
theorem pi_enum {X : Cx} {e : Expr} {ta : TA} {p pos tpos : Pos} {elts : List Expr} {kk : Nat} (hg : Gl X "enumerate") (hm : X.mg "enumerate" = none) (ha : PA X [e] ta) (hs : starEach [e] X.env = [(false, eval e X.env)] := by rfl) :
    PI X (.Tuple elts kk tpos) (.Call (.Name "enumerate" p) [e] [] pos) (iEnum X.K ta) := by
  intro pins s σ H R I h
  refine Call_ (ld_blt I hg hm boot_enumerate (PyProof.Rows.callWith_type1 (thn (ha pos pins s σ H _ I h) fun us s1 ⟨vs, H1, I1, r1, q1⟩ => ?_) hs rfl))
  obtain ⟨a, xs, ex, hq, q⟩ := q1
  subst ex
  cases r1 with
  | cons r rr =>
    cases rr
    cases r
    obtain ⟨its, rv, p', hz⟩ := I1.list hq
    refine call_enumerate_list p'.isList fun h' he hit hsz hk => wpAny_pyIter_enum he ?_
    have I2 : Inv X pins σ H1 { s1 with heap := h' } := I1.kept (t' := s1.toks) hk
    refine ⟨s1.heap.objs.size + 1, [s1.heap.objs.size + 1, s1.heap.objs.size], _, _, H1, rfl, I2, turn_enum a (s1.heap.objs.size + 1) s1.heap.objs.size, ⟨⟨.none, he⟩, hit, Nat.succ_ne_self _⟩, fun b hb => ?_, q⟩
    have e' : b = s1.heap.objs.size + 1 ∨ b = s1.heap.objs.size := by simpa using hb
    have hle : s1.heap.objs.size ≤ b := by
      rcases e' with z | z
      · rw [z]; exact Nat.le_add_right _ _
      · rw [z]; exact Nat.le_refl _
    exact I1.fpOk hle (I1.hok.fresh hle)
theorem boot_zip5 : bootBuiltins "zip" = some (.type "zip") := by decide +kernel
noncomputable def Itz (K : PySem.W.Frag) (a b : Addr) : It :=
  ⟨fun i H => ∃ (xs ys : List V) (x y : V), SqL K H a xs ∧ SqL K H b ys ∧ xs[i]? = some x ∧ ys[i]? = some y,
    fun i H v H' => ∃ T x y, v = .ref T ∧ H T = none ∧ H' = upd H T (.tup [x, y]) ∧ (∀ xs, SqL K H a xs → xs[i]? = some x) ∧ ∀ ys, SqL K H b ys → ys[i]? = some y,
    fun i H => ∃ xs ys : List V, SqL K H a xs ∧ SqL K H b ys ∧ (xs.length ≤ i ∨ ys.length ≤ i)⟩
theorem turn_zip {P : Program} {w : World} {K : PySem.W.Frag} {elts : List Expr} {kk : Nat} {tpos : Pos} {a b z TI TO i1 i2 : Addr} (D : ZipApart z TI TO i1 i2 a b) :
    Turn P w K (.Tuple elts kk tpos) (Itz K a b) [z, TI, TO, i1, i2] z (fun i h => IsZip h z TI TO .none ∧ IsPair h TI (.ref i1) (.ref i2) ∧ (∃ x y, IsPair h TO x y) ∧ h.IsListIter i1 a i ∧ h.IsListIter i2 b i) where
  mem := by simp
  obj := fun i h st c hc => by
    obtain ⟨hz, hTI, ⟨x, y, hTO⟩, ⟨o1, e1, _, d1⟩, ⟨o2, e2, _, d2⟩⟩ := st
    have e' : c = z ∨ c = TI ∨ c = TO ∨ c = i1 ∨ c = i2 := by simpa using hc
    rcases e' with q | q | q | q | q
    · rw [q]; exact ⟨_, hz, fun v q => nomatch q⟩
    · rw [q]; exact ⟨_, hTI, fun v q => nomatch q⟩
    · rw [q]; exact ⟨_, hTO, fun v q => nomatch q⟩
    · rw [q]; exact ⟨o1, e1, fun v q => by rw [d1] at q; cases q⟩
    · rw [q]; exact ⟨o2, e2, fun v q => by rw [d2] at q; cases q⟩
  keep := fun i h h' st k => by
    obtain ⟨hz, hTI, ⟨x, y, hTO⟩, h1, h2⟩ := st
    exact ⟨k z (by simp) _ hz, k TI (by simp) _ hTI, ⟨x, y, k TO (by simp) _ hTO⟩, h1.at fun o q => k i1 (by simp) o q, h2.at fun o q => k i2 (by simp) o q⟩
  item := by
    intro X hP hw hK hc i pins s σ H E I hf st hg
    subst hP hw hK
    obtain ⟨hz, hTI, ⟨x0, y0, hTO⟩, h1, h2⟩ := st
    obtain ⟨xs, ys, x, y, hqx, hqy, hx, hy⟩ := hg
    obtain ⟨its, rv, p, _⟩ := I.list hqx
    obtain ⟨its2, rv2, p2, _⟩ := I.list hqy
    obtain ⟨u, hu, ru⟩ := rv.get hx
    obtain ⟨u2, hu2, ru2⟩ := rv2.get hy
    have hzl : z < s.heap.objs.size := Heap.lt_size hz
    refine wpAny_pyNext_zip_item D hz hTI hTO h1 h2 p.isList p2.isList (x := u) (y := u2) (by simpa using hu) (by simpa using hu2) fun h' z' TO' h1' h2' hT hsz hk => ?_
    refine ⟨_, rfl, wpAny_letOwnedTupleGo_zip (s := { s with heap := h' }) z' fun h'' z'' sb => ?_⟩
    have hT2 : h''.get? s.heap.objs.size = some { cls := .type "tuple", data := .seq #[u, u2] } := (sb.2 _ (Nat.ne_of_gt hzl)).trans hT
    have new : ObjOk X.prog X.w (upd H s.heap.objs.size (.tup [x, y])) h'' s.heap.objs.size (.tup [x, y]) :=
      ⟨by show 2 ≤ sizeLine; decide, [u, u2], .cons ru (.cons ru2 .nil), ⟨_, hT2, rfl, _, rfl⟩⟩
    have I1 : Inv X pins σ (upd H s.heap.objs.size (.tup [x, y])) { s with heap := h'' } :=
      I.turnedNew (t' := s.toks) (ch := [z, TI, TO, i1, i2]) (fun c o hb q => (sb.2 c (fun q' => hb (by simp [q']))).trans (hk c o (fun q' => hb (by simp [q'])) (fun q' => hb (by simp [q'])) (fun q' => hb (by simp [q'])) (fun q' => hb (by simp [q'])) q)) hf (Nat.le_refl _) new
    refine ⟨.ref s.heap.objs.size, _, I1, rfl, ⟨_, x, y, rfl, I.hok.fresh (Nat.le_refl _), rfl, fun l hl => by rw [I.list_inj hl hqx]; exact hx, fun l hl => by rw [I.list_inj hl hqy]; exact hy⟩, ⟨z'', ?_, ⟨u, u2, ?_⟩, ?_, ?_⟩, fun c hcm => ?_⟩
    · exact (sb.2 _ D.TIz).trans (hk _ _ D.TIz D.TITO D.TIi1 D.TIi2 hTI)
    · exact (sb.2 _ D.TOz).trans TO'
    · exact h1'.at fun o q => (sb.2 _ D.i1z).trans q
    · exact h2'.at fun o q => (sb.2 _ D.i2z).trans q
    · have hlt : c < s.heap.objs.size := by
        have e' : c = z ∨ c = TI ∨ c = TO ∨ c = i1 ∨ c = i2 := by simpa using hcm
        rcases e' with q | q | q | q | q
        · rw [q]; exact hzl
        · rw [q]; exact Heap.lt_size hTI
        · rw [q]; exact Heap.lt_size hTO
        · rw [q]; obtain ⟨_, e1, _⟩ := h1; exact Heap.lt_size e1
        · rw [q]; obtain ⟨_, e2, _⟩ := h2; exact Heap.lt_size e2
      rw [upd_ne (Nat.ne_of_lt hlt)]
      exact (hf c hcm).1
  done := by
    intro X hP hw hK hc i pins s σ H E I hf st hg
    subst hP hw hK
    obtain ⟨hz, hTI, ⟨x0, y0, hTO⟩, h1, h2⟩ := st
    obtain ⟨xs, ys, hqx, hqy, hend⟩ := hg
    obtain ⟨its, rv, p, _⟩ := I.list hqx
    obtain ⟨its2, rv2, p2, _⟩ := I.list hqy
    have l1 := rv.length
    have l2 := rv2.length
    have he : its.toArray[i]? = none ∨ its2.toArray[i]? = none := by
      rcases hend with q | q
      · exact .inl (by simp; omega)
      · exact .inr (by simp; omega)
    exact wpAny_pyNext_zip_end (I.ok.hd hc) D hz hTI hTO h1 h2 p.isList p2.isList he fun h' hk => ⟨rfl, I.turnedL (t' := s.toks) (ch := [z, TI, TO, i1, i2]) (fun c o hb q =>
      hk c o (fun q' => hb (by simp [q'])) (fun q' => hb (by simp [q'])) (fun q' => hb (by simp [q'])) (fun q' => hb (by simp [q'])) q) hf⟩
  self := fun A i s Q E st h => wpAny_pyIter_zip st.1 h
noncomputable def iZip (K : PySem.W.Frag) (ta : TA) : TI := fun σ H R => ta σ H fun vs H1 => ∃ a b xs ys, vs = [.ref a, .ref b] ∧ SqL K H1 a xs ∧ SqL K H1 b ys ∧ R (Itz K a b) H1
theorem pi_zip {X : Cx} {e e2 : Expr} {ta : TA} {p pos tpos : Pos} {elts : List Expr} {kk : Nat} (hg : Gl X "zip") (hm : X.mg "zip" = none) (ha : PA X [e, e2] ta)
    (hs : starEach [e, e2] X.env = (false, eval e X.env) :: starEach [e2] X.env := by rfl) (hpl : (backTo pos (starEach [e2] X.env)).any (·.1) = false := by rfl) :
    PI X (.Tuple elts kk tpos) (.Call (.Name "zip" p) [e, e2] [] pos) (iZip X.K ta) := by
  intro pins s σ H R I h
  refine Call_ (ld_blt I hg hm boot_zip5 (PyProof.Rows.callWith_type1 (thn (ha pos pins s σ H _ I h) fun us s1 ⟨vs, H1, I1, r1, q1⟩ => ?_) hs hpl))
  obtain ⟨a, b, xs, ys, ex, hqx, hqy, q⟩ := q1
  subst ex
  cases r1 with
  | cons r rr =>
    cases rr with
    | cons r' rr =>
      cases rr
      cases r
      cases r'
      obtain ⟨its, rv, p1, _⟩ := I1.list hqx
      obtain ⟨its2, rv2, p2, _⟩ := I1.list hqy
      have la : a < s1.heap.objs.size := p1.lt
      have lb : b < s1.heap.objs.size := p2.lt
      refine call_zip_2 p1.isList p2.isList fun h' hz hTI hTO h1 h2 hsz hk => wpAny_pyIter_zip hz ?_
      have I2 : Inv X pins σ H1 { s1 with heap := h' } := I1.kept (t' := s1.toks) hk
      refine ⟨s1.heap.objs.size + 4, [s1.heap.objs.size + 4, s1.heap.objs.size + 2, s1.heap.objs.size + 3, s1.heap.objs.size, s1.heap.objs.size + 1], _, _, H1, rfl, I2, turn_zip (PySem.W.ktu_apart s1.heap.objs.size a b la lb), ⟨hz, hTI, ⟨_, _, hTO⟩, h1, h2⟩, fun c hcm => ?_, q⟩
      have e' : c = s1.heap.objs.size + 4 ∨ c = s1.heap.objs.size + 2 ∨ c = s1.heap.objs.size + 3 ∨ c = s1.heap.objs.size ∨ c = s1.heap.objs.size + 1 := by simpa using hcm
      have hle : s1.heap.objs.size ≤ c := by
        rcases e' with z | z | z | z | z
        · rw [z]; exact Nat.le_add_right _ _
        · rw [z]; exact Nat.le_add_right _ _
        · rw [z]; exact Nat.le_add_right _ _
        · rw [z]; exact Nat.le_refl _
        · rw [z]; exact Nat.le_add_right _ _
      exact I1.fpOk hle (I1.hok.fresh hle)
end L2
section
namespace Bits
open PySem PyProof.Rows
end Bits
end
section
namespace TL
open PySem PySem.Builtin PySem.Builtin.Str PySem.StrLaws
noncomputable abbrev tl (x : Str) : List Nat := x.cps.toList
noncomputable def pre (S l : List Nat) : Bool := l.take S.length == S
noncomputable def par (S : List Nat) : List Nat → List Nat → Option (List Nat × List Nat)
  | _, [] => none
  | acc, c :: r => if pre S (c :: r) = true then some (acc, (c :: r).drop S.length) else par S (acc ++ [c]) r
end TL
end
namespace L2
open PySem PySem.Spec PyProof.Rows
section
variable {X : Cx} {pins : List (Addr × Obj)} {σ : St} {H : Hp} {s : Shared} {Q : VK}
end
section
variable {X : Cx}
end
section
variable {X : Cx} {o e : Expr} {to te : TE}
end
end L2
namespace L2
open PySem PySem.Spec PyProof.Rows
section
variable {X : Cx}
end
end L2
namespace Att
open PySem PySem.W PySem.Calls PyProof.Rows
theorem ints_of_wellAll {P : Params} {h : Heap} : ∀ (ns : List Int) (vs : List Value), WellAll P h vs (ns.map WData.int) → IntsAre vs ns := by
  intro ns
  induction ns with
  | nil =>
    intro vs w
    rw [List.map_nil] at w
    cases w
    exact .nil
  | cons n ns ih =>
    intro vs w
    rw [List.map_cons] at w
    cases w with
    | cons a b =>
      cases a
      exact .cons _ _ (ih _ b)
section
variable {prog : Program} {w : World} {A : Around} {E : Value → Shared → Prop} {s : Shared} {K : Frag}
end
end Att
namespace L2
open PySem PySem.Spec PyProof.Rows
theorem vals_ints : ∀ {vs : List Value} {ns : List Int}, IntsAre vs ns → Vals (ns.map V.int) vs
  | _, _, .nil => .nil
  | _, _, .cons n t h => .cons ⟨t, rfl⟩ (vals_ints h)
noncomputable def Only (H : Hp) : Prop := ∀ b, H b = none ∨ ∃ o xs, H b = some (.frz o (.lst xs))
end L2
namespace L2
open PySem PySem.Spec PyProof.Rows
end L2
namespace L2
open PySem PySem.Spec PyProof.Rows
noncomputable def inClass (s : Stmt) (j : Nat) : Stmt := match s with
  | .ClassDef _ _ _ body _ _ _ _ _ _ _ => body.getD j (.Pass ⟨0, 0, 0, 0⟩)
  | _ => .Pass ⟨0, 0, 0, 0⟩
noncomputable def defArgs (s : Stmt) : Arguments := match s with
  | .FunctionDef _ a _ _ _ _ _ _ _ _ => a
  | _ => { posonlyargs := [], args := [], vararg := none, kwonlyargs := [], kw_defaults := [], kwarg := none, defaults := [] }
noncomputable def defBody (s : Stmt) : List Stmt := match s with
  | .FunctionDef _ _ b _ _ _ _ _ _ _ => b
  | _ => []
noncomputable def defScope (s : Stmt) : Scope := match s with
  | .FunctionDef _ _ _ _ _ _ sc _ _ _ => sc
  | _ => { kind := .function, names := [], isGenerator := false, isCoroutine := false }
noncomputable abbrev CX0 : CXT := fun _ _ _ _ _ _ => False
noncomputable abbrev E0 : XK := fun _ _ _ => False
theorem pass0 {X : Cx} : Passes CX0 X E0 := fun _ _ _ _ _ _ _ h => h.elim
structure Fun (K : PySem.W.Frag) (x qual : Str) (st : Stmt) (f : Addr) (fd : FuncData) : Prop where
  ex : ∃ (oc : Value) (od : Option Addr) (kV doc pm : Value) (an : Option Addr) (cdv ct : Value) (osl : Array (Option Value)),
    fd = PySem.W.fnOf x qual (defArgs st) (defBody st) (defScope st) .none kV doc pm an cdv ct ∧ K.lookup f = some ⟨oc, od, .func fd, osl⟩ ∧ PySem.W.codeIn K cdv qual = true
  kp : PySem.W.keepIn K (.ref f) = true
section
variable {P : Program} {w : World} {K : PySem.W.Frag} {mg : Str → Option Value} {base : Heap}
theorem Fun.ok {x qual : Str} {st : Stmt} {f : Addr} {fd : FuncData} {N ps : List Str} {k : Nat} {sp : Sp} (F : Fun K x qual st f fd) (S : FnScope N ps (defScope st)) (len : ∀ vs H Q E, sp vs H Q E → vs.length = ps.length)
    (hbody : ∀ (cdv : Value) (A : Around) (outer : List Env) (s : Shared) (H : Hp) (vs : List V) (Q : VK) (E : XK), Room k (A.deeper (envOfC qual (defScope st) s.heap.objs.size f cdv)) → sp vs H Q E →
      ∃ t, PSs (cxOf CX0 P w K mg base N qual (defScope st) f cdv A outer s H E).nox (defBody st) t ∧ t { nx := fun _ H' => Q .non H', rt := Q } (start N vs) H) : FnOk P w K mg base CX0 (k + 1) f fd ps sp := by
  obtain ⟨oc, od, kV, doc, pm, an, cdv, ct, osl, rfl, lk, hcd⟩ := F.ex
  refine fn_of lk hcd S len fun A outer s H vs Q E hr hsp => ?_
  obtain ⟨t, h, q⟩ := hbody cdv A outer s H vs Q E hr hsp
  exact ⟨t, h.nox, q⟩
theorem Fun.binds {x qual : Str} {st : Stmt} {f : Addr} {fd : FuncData} {ps : List Str} (F : Fun K x qual st f fd)
    (h : ∀ (kV doc pm : Value) (an : Option Addr) (cdv ct : Value) (us : List Value), us.length = ps.length → bindArgs (PySem.W.fnOf x qual (defArgs st) (defBody st) (defScope st) .none kV doc pm an cdv ct) ⟨us, []⟩ = pure (ps.zip us)) : Binds K fd ps [] := by
  obtain ⟨oc, od, kV, doc, pm, an, cdv, ct, osl, rfl, lk, hcd⟩ := F.ex
  exact .all (h kV doc pm an cdv ct)
theorem fun_mk {x qual : Str} {st : Stmt} {f : Addr} {oc : Value} {od an : Option Addr} {osl : Array (Option Value)} {kV doc pm cdv ct : Value} (l : K.lookup f = some ⟨oc, od, .func (PySem.W.fnOf x qual (defArgs st) (defBody st) (defScope st) .none kV doc pm an cdv ct), osl⟩)
    (c : PySem.W.codeIn K cdv qual = true) (k : PySem.W.keepIn K (.ref f) = true) : Fun K x qual st f (PySem.W.fnOf x qual (defArgs st) (defBody st) (defScope st) .none kV doc pm an cdv ct) := ⟨⟨oc, od, kV, doc, pm, an, cdv, ct, osl, rfl, l, c⟩, k⟩
end
theorem hu_of {A : Around} {k : Nat} (hr : Room k A) : A.units + 1 < cLine := Nat.lt_of_le_of_lt (Nat.add_le_add_left (by decide : 1 ≤ 64) _) hr.units
section
variable {X : Cx}
theorem pv (i : Nat) {x : Str} {pos : Pos} (hN : X.N[i]? = some x := by rfl) (hv : Vis X.env.scope x := by first | exact Or.inl rfl | exact Or.inr (Or.inl rfl) | exact Or.inr (Or.inr rfl)) (hd : (x == ("__debug__" : Str)) = false := by decide)
    (hcd : (x == ("__classdict__" : Str)) = false := by decide) : PE X (.Name x pos) (tVar i) := pe_var hN hv hd hcd
end
noncomputable def Same (H H' : Hp) : Prop := ∀ b o, H b = some o → H' b = some o
theorem Same.refl (H : Hp) : Same H H := fun _ _ h => h
theorem Same.trans {H H1 H2 : Hp} (a : Same H H1) (b : Same H1 H2) : Same H H2 := fun c o h => b c o (a c o h)
theorem Same.free {H H' : Hp} (e : Same H H') {l : Addr} (h : H' l = Option.none) : H l = Option.none := by
  cases q : H l with
  | none => rfl
  | some o =>
    rw [e l o q] at h
    cases h
theorem Same.seq {K : PySem.W.Frag} {H H' : Hp} {a : Addr} {xs : List V} (e : Same H H') (h : SqL K H a xs) : SqL K H' a xs := by
  rcases h with (h | ⟨o, h⟩) | h
  · exact .inl (.inl (e _ _ h))
  · exact .inl (.inr ⟨o, e _ _ h⟩)
  · exact .inr h
section
variable {κ : Type} [DecidableEq κ]
end
theorem nd_ix {α : Type} {l : List α} (hN : l.Nodup) {i j : Nat} {x : α} (a : l[i]? = some x) (b : l[j]? = some x) : i = j := by
  obtain ⟨h1, e1⟩ := List.getElem?_eq_some_iff.mp a
  obtain ⟨h2, e2⟩ := List.getElem?_eq_some_iff.mp b
  exact (List.getElem_inj hN).mp (e1.trans e2.symm)
theorem Same.made {H H1 : Hp} {x dx C : Addr} (nx : H x = Option.none) (nd : H dx = Option.none) (k : ∀ b o, (upd (upd H dx (.own x)) x (.ins C dx [])) b = some o → b ≠ x → H1 b = some o) : Same H H1 := fun b o e =>
  k b o (by rw [upd_ne (ne_of_none e nx), upd_ne (ne_of_none e nd)]; exact e) (ne_of_none e nx)
end L2
namespace L2
open PySem PySem.Spec PyProof.Rows
noncomputable def ExcAt (h : Heap) (ea : Addr) (cls : Value) (od : Option Addr) (vs : Array Value) : Prop :=
  ∃ oe, h.get? ea = some oe ∧ oe.cls = cls ∧ oe.dict = od ∧ oe.data = .fields vs
noncomputable def CtxOk (vs : Array Value) (od : Option Addr) : Prop := 5 < vs.size ∧ (od = none → vs[2]? = some .none)
theorem CtxOk.set {vs : Array Value} {od : Option Addr} (x : CtxOk vs od) (v : Value) : CtxOk (vs.setIfInBounds 1 v) od := ⟨by simpa using x.1, fun e => by rw [Array.getElem?_setIfInBounds_ne (by decide)]; exact x.2 e⟩
noncomputable def EntAt (h : Heap) (T : Addr) (fl : Value) : Prop := ∃ oT ts, h.get? T = some oT ∧ oT.data = .fields ts ∧ ts[3]? = some fl
theorem ExcAt.kept {h h' : Heap} {ea : Addr} {cls : Value} {od : Option Addr} {vs : Array Value} (x : ExcAt h ea cls od vs) (k : ∀ o, h.get? ea = some o → h'.get? ea = some o) : ExcAt h' ea cls od vs :=
  let ⟨oe, a, r⟩ := x; ⟨oe, k _ a, r⟩
theorem EntAt.kept {h h' : Heap} {T : Addr} {fl : Value} (x : EntAt h T fl) (k : ∀ o, h.get? T = some o → h'.get? T = some o) : EntAt h' T fl :=
  let ⟨oT, ts, a, r⟩ := x; ⟨oT, ts, k _ a, r⟩
theorem dict_mapFields (o : Obj) (f) : (o.mapFields f).dict = o.dict := by obtain ⟨c, d, dt, sl⟩ := o; cases dt <;> rfl
structure Mine (X : Cx) (H : Hp) (b : Addr) : Prop where
  new : X.s_0.heap.get? b = none
  free : H b = none
  loc : b ≠ X.env.locals
  cel : ∀ x c, X.env.cells.lookup x = some c → c ≠ b
theorem Mine.nofs {X : Cx} {pins : List (Addr × Obj)} {σ : St} {H H' : Hp} {s : Shared} {b : Addr} (m : Mine X H b) (I : Inv X pins σ H' s) : b ∉ X.fs := fun hb => by
  obtain ⟨_, o, ho, _⟩ := I.ok.funs.mem hb
  rw [m.new] at ho
  cases ho
theorem stepN {X : Cx} {pins : List (Addr × Obj)} {σ : List (Option V)} {H H' : Hp} {s : Shared} {h' : Heap} {g' : Array GenState} {t' : Nat} {d' : Drawn} {ch : List Addr} (I : Inv X pins σ H s)
    (hch : ∀ b ∈ ch, Mine X H b ∧ ∀ p ∈ X.pn ++ pins, p.1 ≠ b)
    (keep : ∀ b o, b ≠ X.env.locals → b ∉ X.fs → b ∉ ch → s.heap.get? b = some o → H b = none → h'.get? b = some o)
    (slot : ∀ b o, b ≠ X.env.locals → b ∈ X.fs → b ∉ ch → s.heap.get? b = some o → H b = none → ∃ sl, h'.get? b = some { o with slots := sl }) (free : ∀ b o, b ∉ ch → s.heap.get? b = some o → H b = none → H' b = none)
    (there : ∀ b o, b ∉ ch → s.heap.get? b = some o → ∃ o', h'.get? b = some o')
    (tups : ∀ b xs, H b = some (.tup xs) → H' b = some (.tup xs)) (frzs : ∀ b o u, H b = some (.frz o u) → H' b = some (.frz o u)) (tbls : ∀ b ps, H b = some (.tbl ps) → ∃ more, H' b = some (.tbl (ps ++ more)))
    (ns : ∀ m, s.heap.Ns X.env.locals m → h'.Ns X.env.locals m) (hok : HOk X.prog X.w H' h') (hg : AllBare g') :
    Inv X pins σ H' { s with heap := h', gens := g', drawn := d', toks := t' } := by
  have neL : ∀ b o, X.s_0.heap.get? b = some o → b ≠ X.env.locals := fun b o e => Nat.ne_of_lt (Nat.lt_of_lt_of_le (Heap.lt_size e) I.ok.above)
  have neC : ∀ b o, X.s_0.heap.get? b = some o → b ∉ X.ex → b ∉ ch := fun b o e hx hb => by
    have z := (hch b hb).1.new
    rw [z] at e
    cases e
  have cellK : ∀ x c, X.env.cells.lookup x = some c → ∀ v, s.heap.IsCell c v → h'.IsCell c v := fun x c e v ⟨o, ho, hd⟩ => by
    have nch : c ∉ ch := fun z => (hch c z).1.cel x c e rfl
    by_cases hc : c ∈ X.fs
    · obtain ⟨sl, q⟩ := slot c o (I.cne x c e) hc nch ho (I.freeC x c e)
      exact ⟨_, q, hd⟩
    · exact ⟨o, keep c o (I.cne x c e) hc nch ho (I.freeC x c e), hd⟩
  refine ⟨I.ok, I.os, hg, ⟨fun b o e n hb hx => ?_, fun b o e n hb hx => ?_, fun b o e n hx => ?_, fun b o e hx => ?_, fun b xs e => tups b xs (I.base.tups b xs e), fun b o xs e => frzs b o xs (I.base.frzs b o xs e), fun b ps e => ?_⟩, ?_, fun x c e => ?_, ?_, fun x c e => ?_, fun p hp => ?_, hok, I.len⟩
  · exact keep b o (neL b o e) hb (neC b o e hx) (I.base.keep b o e n hb hx) (I.base.free b o e n hx)
  · obtain ⟨sl, e1⟩ := I.base.slot b o e n hb hx
    obtain ⟨sl', e2⟩ := slot b _ (neL b o e) hb (neC b o e hx) e1 (I.base.free b o e n hx)
    exact ⟨sl', e2⟩
  · obtain ⟨o', e1⟩ := I.base.there b o e hx
    exact free b o' (neC b o e hx) e1 (I.base.free b o e n hx)
  · obtain ⟨o', e1⟩ := I.base.there b o e hx
    exact there b o' (neC b o e hx) e1
  · obtain ⟨m1, e1⟩ := I.base.tbls b ps e
    obtain ⟨m2, e2⟩ := tbls b _ e1
    exact ⟨m1 ++ m2, by rw [e2, Array.append_assoc]⟩
  · obtain ⟨m, hn, hl⟩ := I.loc
    refine ⟨m, ns m hn, fun i x v e1 e2 e3 => ?_⟩
    obtain ⟨u, r, l⟩ := hl i x v e1 e2 e3
    refine ⟨u, r, ?_⟩
    rcases l with l | ⟨k, c, e, z⟩
    · exact .inl l
    · exact .inr ⟨k, c, e, cellK x c e _ z⟩
  · obtain ⟨v, z⟩ := I.cell x c e
    exact ⟨v, cellK x c e v z⟩
  · obtain ⟨m, ⟨o, _, _, ho, _⟩, _⟩ := I.loc
    exact free _ o (fun z => (hch _ z).1.loc rfl) ho I.free
  · obtain ⟨v, o, ho, hd⟩ := I.cell x c e
    exact free c o (fun z => (hch c z).1.cel x c e rfl) ho (I.freeC x c e)
  · obtain ⟨e, n, ne, nf, d⟩ := I.pin p hp
    have nch : p.1 ∉ ch := fun z => (hch p.1 z).2 p hp rfl
    exact ⟨keep p.1 p.2 ne nf nch e n, free p.1 p.2 nch e n, ne, nf, d⟩
theorem turnedN {X : Cx} {pins : List (Addr × Obj)} {σ : St} {H : Hp} {s : Shared} {h' : Heap} {ch : List Addr} (I : Inv X pins σ H s)
    (hch : ∀ b ∈ ch, Mine X H b ∧ ∀ p ∈ X.pn ++ pins, p.1 ≠ b)
    (keep : ∀ b o, b ∉ frs X.stack → b ∉ ch → s.heap.get? b = some o → h'.get? b = some o)
    (slot : ∀ b o, b ∈ frs X.stack → b ∉ ch → s.heap.get? b = some o → ∃ sl, h'.get? b = some { o with slots := sl })
    (there : ∀ b o, s.heap.get? b = some o → ∃ o', h'.get? b = some o') : Inv X pins σ H { s with heap := h' } := by
  have any : ∀ b o, b ∉ ch → s.heap.get? b = some o → ∃ sl, h'.get? b = some { o with slots := sl } := fun b o hc e => by
    by_cases hb : b ∈ frs X.stack
    · exact slot b o hb hc e
    · exact ⟨o.slots, keep b o hb hc e⟩
  refine stepN (g' := s.gens) (t' := s.toks) (d' := s.drawn) (ch := ch) I hch (fun b o hl hf hc e n => keep b o (fun z => (List.mem_cons.mp (I.stkSub b z)).elim hl hf) hc e) (fun b o _ _ hc e _ => any b o hc e)
    (fun _ _ _ _ n => n) (fun b o _ e => there b o e) (fun _ _ e => e) (fun _ _ _ e => e) (fun b ps e => ⟨#[], by rw [e]; simp⟩) (fun m hm => ?_) (fun b u e => ?_) I.bare
  · obtain ⟨o, es, ep, ho, r⟩ := hm
    obtain ⟨sl, q⟩ := any _ o (fun z => (hch _ z).1.loc rfl) ho
    exact ⟨_, es, ep, q, r⟩
  · have tr : ∀ c v, H c = some v → c ∉ frs X.stack ∧ c ∉ ch := fun c v q => ⟨fun z => (by rw [I.stkFree c z] at q; cases q), fun z => (by rw [(hch c z).1.free] at q; cases q)⟩
    refine (I.hok b u e).stay (fun c v hc q => ?_) (fun _ q => q) fun _ _ q => q
    rcases hc with z | z
    · rw [z] at q ⊢
      exact keep b v (tr b u e).1 (tr b u e).2 q
    · exact keep c v (tr c _ z).1 (tr c _ z).2 q
section
variable {M : Model} {A : Around} {E : Value → Shared → Prop} {s : Shared}
theorem entry_new {base : Heap} {env : Env} {outer : List Env} {L ea : Addr} {oe : Obj} {vs : Array Value} {head : Value} {had : Bool} {Q : Unit → Shared → Prop}
    (hfr : A.frames = some (env :: outer)) (hl : s.heap.FunFrames base (env :: outer)) (hf : env.frame = some L) (he : s.heap.get? ea = some oe) (hd : oe.data = .fields vs) (h1 : 1 < vs.size)
    (h : ∀ h' T, (∀ b o, b ∉ frs (env :: outer) → b ≠ ea → s.heap.get? b = some o → h'.get? b = some o) → (∀ b o, b ≠ ea → s.heap.get? b = some o → ∃ sl, h'.get? b = some { o with slots := sl }) → s.heap.get? T = none → T ≠ ea →
      h'.get? ea = some (oe.mapFields (·.setIfInBounds 1 (.ref T))) → EntAt h' T (rawInt L) → s.heap.objs.size ≤ T → Q () { s with heap := h' }) :
    wpAny M A (do
      let a ← PySem.frameOf env
      let pl ← entryPlaceOf L had
      let b ← EntryCells.newEntry head a .none (rawInt L) .none pl
      setField (.ref ea) 1 b) Q E s := by
  have nfr : ea ∉ (env :: outer).filterMap (·.frame) := fun hm => by
    obtain ⟨_, o, ho, hnf⟩ := hl.mem hm
    rw [he] at ho
    cases ho
    exact hnf vs hd
  refine wpAny_bind (wpAny_frameOf_fun hfr hl hf fun h₁ hs => ?_)
  refine wpAny_bind (wpAny_entryPlaceOf fun pl hpl => ?_)
  unfold EntryCells.newEntry newFields
  refine wpAny_bind (wpAny_newObj_type ?_ (hpl.sizeOk5 _ _ _ _ _))
  have he1 : h₁.get? ea = some oe := (hs.2.1 ea nfr).trans he
  generalize hT : ({ cls := .type "traceback", dict := none, data := .fields ([head, .ref L, .none, rawInt L, .none] ++ (if pl.isEmpty then List.replicate 6 Value.none else pl)).toArray } : Obj) = oT
  have hz : h₁.objs.size = s.heap.objs.size := hs.1
  have he2 := Heap.get?_push_of_some (h := h₁) oT he1
  refine wpAny_setField he2 hd h1 ?_
  have nT : h₁.objs.size ≠ ea := Nat.ne_of_gt (Heap.lt_size he1)
  have d3 := Obj.data_mapFields hd (·.setIfInBounds 1 (Value.ref h₁.objs.size))
  have keep : ∀ b o, b ≠ ea → h₁.get? b = some o → ((h₁.push oT).update ea (Obj.mapFields (·.setIfInBounds 1 (Value.ref h₁.objs.size)))).get? b = some o := fun b o hb e => by
    rw [Heap.get?_update_other _ _ (Ne.symm hb)]
    exact Heap.get?_push_of_some _ e
  refine h _ h₁.objs.size (fun b o hb hne e => keep b o hne ((hs.2.1 b hb).trans e)) (fun b o hne e => ?_) (Heap.get?_none_of_le (Nat.le_of_eq hz.symm)) nT ?_ ?_ (Nat.le_of_eq hz.symm)
  · obtain ⟨sl, q⟩ := hs.2.2 b o e
    exact ⟨sl, keep b _ hne q⟩
  · exact Heap.get?_update_self _ he2 (Obj.isFreed_of_fields d3)
  · refine ⟨oT, _, ?_, by rw [← hT], ?_⟩
    · rw [Heap.get?_update_other _ _ (Ne.symm nT)]
      refine Heap.get?_push_size h₁ ?_
      rw [← hT]
      all_goals rfl
    · first | (simp; done) | (rcases hpl with rfl | ⟨_, _, _, _, _, _, _, rfl⟩ <;> simp)
end
inductive Head (X : Cx) (H : Hp) (h : Heap) (vs : Array Value) (ea : Addr) : Prop where
  | none (e : vs[1]? = some .none) : Head X H h vs ea
  | some {T : Addr} {fl : Value} (e : vs[1]? = some (.ref T)) (ne : T ≠ ea) (en : EntAt h T fl) (m : Mine X H T) : Head X H h vs ea
structure Fly (X : Cx) (pins : List (Addr × Obj)) (σ : St) (H : Hp) (s : Shared) (ea : Addr) (cls : Value) (od : Option Addr) : Prop where
  inv : Inv X pins σ H s
  mine : Mine X H ea
  ex : ∃ vs, ExcAt s.heap ea cls od vs ∧ CtxOk vs od ∧ Head X H s.heap vs ea
  pin : ∀ p ∈ X.pn ++ pins, s.heap.get? p.1 = some p.2 ∧ p.1 ≠ ea ∧ ∀ vs, ExcAt s.heap ea cls od vs → ∀ T, vs[1]? = some (.ref T) → p.1 ≠ T
structure Noted (X : Cx) (pins : List (Addr × Obj)) (σ : St) (H : Hp) (s : Shared) (ea : Addr) (cls : Value) (od : Option Addr) (T : Addr) (fl : Value) : Prop where
  inv : Inv X pins σ H s
  mine : Mine X H ea
  ex : ∃ vs, ExcAt s.heap ea cls od vs ∧ CtxOk vs od ∧ vs[1]? = some (.ref T)
  ne : T ≠ ea
  en : EntAt s.heap T fl
  mineT : Mine X H T
  pin : ∀ p ∈ X.pn ++ pins, p.1 ≠ ea ∧ p.1 ≠ T
theorem Noted.fly {X : Cx} {pins : List (Addr × Obj)} {σ : St} {H : Hp} {s : Shared} {ea T : Addr} {cls fl : Value} {od : Option Addr} (N : Noted X pins σ H s ea cls od T fl) : Fly X pins σ H s ea cls od := by
  obtain ⟨vs, e, z, h1⟩ := N.ex
  refine ⟨N.inv, N.mine, ⟨vs, e, z, .some h1 N.ne N.en N.mineT⟩, fun p hp => ⟨(N.inv.pin p hp).1, (N.pin p hp).1, fun ws e' T' q => ?_⟩⟩
  obtain ⟨oe, a1, _, _, a2⟩ := e
  obtain ⟨oe', b1, _, _, b2⟩ := e'
  rw [a1] at b1
  cases b1
  rw [a2] at b2
  cases b2
  rw [h1] at q
  cases q
  exact (N.pin p hp).2
section
variable {X : Cx} {pins : List (Addr × Obj)} {σ : St} {H : Hp} {s : Shared} {ea : Addr} {cls : Value} {od : Option Addr} {A : Around} {E : Value → Shared → Prop} {Q : Unit → Shared → Prop}
structure Body (X : Cx) : Prop where
  st : X.stack = X.env :: X.outer
  fr : X.env.frame = some X.env.locals
  ex : X.ex = []
theorem Body.frs {X : Cx} (B : Body X) : frs X.stack = X.env.locals :: X.fs := by
  rw [B.st]
  unfold L2.frs
  rw [List.filterMap_cons, B.fr]
  all_goals rfl
theorem exc_one {h : Heap} {vs ws : Array Value} (a : ExcAt h ea cls od vs) (b : ExcAt h ea cls od ws) : vs = ws := by
  obtain ⟨oe, a1, _, _, a2⟩ := a
  obtain ⟨oe', b1, _, _, b2⟩ := b
  rw [a1] at b1
  cases b1
  rw [a2] at b2
  cases b2
  rfl
theorem mark_set {M : Model} {T : Addr} {fl x : Value} (N : Noted X pins σ H s ea cls od T fl) (h : ∀ s', Noted X pins σ H s' ea cls od T x → Q () s') : wpAny M A (setField (.ref T) 3 x) Q E s := by
  obtain ⟨vs, e, z, h1⟩ := N.ex
  obtain ⟨oT, ts, t1, t2, t3⟩ := N.en
  have hz : 3 < ts.size := (Array.getElem?_eq_some_iff.mp t3).1
  refine wpAny_setField t1 t2 hz (h _ ?_)
  have d3 := Obj.data_mapFields t2 (·.setIfInBounds 3 x)
  have other : ∀ b, b ≠ T → (s.heap.update T (Obj.mapFields (·.setIfInBounds 3 x))).get? b = s.heap.get? b := fun b hb => Heap.get?_update_other _ _ (Ne.symm hb)
  have self := Heap.get?_update_self (Obj.mapFields (·.setIfInBounds 3 x)) t1 (Obj.isFreed_of_fields d3)
  refine ⟨turnedN (ch := [T]) N.inv (fun b hb => ?_) (fun b o _ hc q => (other b (by simpa using hc)).trans q) (fun b o _ hc q => ⟨o.slots, (other b (by simpa using hc)).trans q⟩) (fun b o q => ?_), N.mine, ⟨vs, e.kept fun o q => (other _ (Ne.symm N.ne)).trans q, z, h1⟩, N.ne, ⟨_, _, self, d3, by simp [hz]⟩, N.mineT, N.pin⟩
  · obtain rfl : b = T := by simpa using hb
    exact ⟨N.mineT, fun p hp => (N.pin p hp).2⟩
  · by_cases hb : b = T
    · subst hb
      exact ⟨_, self⟩
    · exact ⟨o, (other b hb).trans q⟩
theorem flight_ok {M : Model} {T : Addr} {fl : Value} {fr : Option Addr} (N : Noted X pins σ H s ea cls od T fl) (h : ∀ s', Noted X pins σ H s' ea cls od T (fr.elim .none fun f => rawInt f) → Q () s') : wpAny M A (setFlight (.ref ea) fr) Q E s := by
  obtain ⟨vs, ⟨oe, e1, _, _, e2⟩, _, h1⟩ := N.ex
  unfold setFlight
  refine wpAny_bind (wpAny_field e1 e2 h1 ?_)
  rw [if_pos (show (Value.ref T != Value.none) = true from by simp)]
  exact mark_set N h
theorem note_ok {M : Model} (B : Body X) (hfr : A.frames = some X.stack) (F : Fly X pins σ H s ea cls od) (h : ∀ s' T, Noted X pins σ H s' ea cls od T (rawInt X.env.locals) → Q () s') : wpAny M A (noteFrame (.ref ea) X.env) Q E s := by
  have pn : ∀ p ∈ X.pn ++ pins, p.1 ≠ ea := fun p hp => (F.pin p hp).2.1
  have fresh : ∀ {s1 : Shared} {vs : Array Value} {head : Value} {had : Bool}, Inv X pins σ H s1 → ExcAt s1.heap ea cls od vs → CtxOk vs od → wpAny M A (do
      let a ← PySem.frameOf X.env
      let pl ← entryPlaceOf X.env.locals had
      let b ← EntryCells.newEntry head a .none (rawInt X.env.locals) .none pl
      setField (.ref ea) 1 b) Q E s1 := fun {s1 vs head had} I e z => by
    obtain ⟨oe, e1, ec, eo, e2⟩ := e
    have hfr' := hfr
    rw [B.st] at hfr'
    have hl := I.stack
    rw [B.st] at hl
    refine entry_new hfr' hl B.fr e1 e2 (by have := z.1; omega) fun h' T keep slot nT neT self ent hz => h _ T ?_
    have mT : Mine X H T := by
      refine ⟨Heap.get?_none_of_le (Nat.le_trans I.sz hz), I.hok.fresh hz, ?_, fun x c q => ?_⟩
      · rintro rfl
        exact absurd (Nat.lt_of_lt_of_le I.lt hz) (Nat.lt_irrefl _)
      · rintro rfl
        obtain ⟨v, o, ho, _⟩ := I.cell x c q
        rw [ho] at nT
        cases nT
    have d3 := Obj.data_mapFields e2 (·.setIfInBounds 1 (Value.ref T))
    refine ⟨turnedN (ch := [ea]) I (fun b hb => ?_) (fun b o hb hc q => ?_) (fun b o _ hc q => ?_) (fun b o q => ?_), F.mine, ⟨_, ⟨_, self, (Obj.cls_mapFields _ _).trans ec, (dict_mapFields _ _).trans eo, d3⟩, ?_, ?_⟩, neT, ent, mT, fun p hp => ⟨pn p hp, fun q => ?_⟩⟩
    · obtain rfl : b = ea := by simpa using hb
      exact ⟨F.mine, pn⟩
    · rw [B.st] at hb
      exact keep b o hb (by simpa using hc) q
    · exact slot b o (by simpa using hc) q
    · by_cases hb : b = ea
      · subst hb
        exact ⟨_, self⟩
      · obtain ⟨sl, w⟩ := slot b o hb q
        exact ⟨_, w⟩
    · exact z.set _
    · have : 1 < vs.size := by have := z.1; omega
      simp [this]
    · have w := (I.pin p hp).1
      rw [q, nT] at w
      cases w
  obtain ⟨vs, e, z, hd⟩ := F.ex
  obtain ⟨oe, e1, ec, eo, e2⟩ := id e
  unfold noteFrame
  simp only [B.fr]
  cases hd with
  | none h1 =>
    refine wpAny_bind (wpAny_field e1 e2 h1 ?_)
    rw [if_neg (by decide)]
    exact fresh F.inv e z
  | @some T fl h1 ne en mT =>
    have N : Noted X pins σ H s ea cls od T fl := ⟨F.inv, F.mine, ⟨vs, e, z, h1⟩, ne, en, mT, fun p hp => ⟨pn p hp, (F.pin p hp).2.2 vs e T h1⟩⟩
    obtain ⟨oT, ts, t1, t2, t3⟩ := id en
    refine wpAny_bind (wpAny_field e1 e2 h1 ?_)
    rw [if_pos (show (Value.ref T != Value.none) = true from by simp)]
    refine wpAny_bind (wpAny_field t1 t2 t3 ?_)
    by_cases hq : (fl == rawInt X.env.locals) = true
    · rw [if_pos hq]
      refine wpAny_pure (h s T ?_)
      rw [← (beq_iff_eq.mp hq)]
      exact N
    · rw [if_neg hq]
      refine wpAny_bind (mark_set N fun s1 N1 => ?_)
      obtain ⟨vs1, e', z', _⟩ := N1.ex
      exact fresh N1.inv e' z'
theorem leave_fly {M : Model} (B : Body X) (hfr : A.frames = some X.stack) (F : Fly X pins σ H s ea cls od) (h : ∀ s' T, Noted X pins σ H s' ea cls od T .none → Q () s') : wpAny M A (leaving X.env (.ref ea)) Q E s := by
  unfold leaving
  exact wpAny_bind (note_ok B hfr F fun s1 T N => flight_ok (fr := none) N fun s2 N2 => h s2 T N2)
end
noncomputable def CXE (P : Program) (w : World) : CXT := fun outer H s E e s' => ∃ ea cls od vs T H', e = .ref ea ∧ s'.os = s.os ∧ AllBare s'.gens ∧ Un (frs outer) [] H H' s.heap s'.heap ∧ HOk P w H' s'.heap ∧
  ExcAt s'.heap ea cls od vs ∧ CtxOk vs od ∧ vs[1]? = some (.ref T) ∧ T ≠ ea ∧ EntAt s'.heap T .none ∧ s.heap.get? ea = none ∧ s.heap.get? T = none ∧ H' ea = none ∧ H' T = none ∧ E cls od H'
theorem fly_of {X : Cx} {pins : List (Addr × Obj)} {σ : St} {H : Hp} {s s' : Shared} {E : XK} {e : Value} (B : Body X) (I : Inv X pins σ H s) (c : CXE X.prog X.w X.stack H s E e s') :
    ∃ ea cls od H' T, e = .ref ea ∧ Noted X pins σ H' s' ea cls od T .none ∧ E cls od H' ∧ Un (frs X.stack) [] H H' s.heap s'.heap := by
  obtain ⟨ea, cls, od, vs, T, H', rfl, os, bare, un, hok, ex, z, h1, ne, en, n1, n2, f1, f2, q⟩ := c
  have I2 : Inv X pins σ H' s' := I.call' (ch := []) os un hok bare fun b hb => nomatch hb
  have mine : ∀ b, s.heap.get? b = none → H' b = none → Mine X H' b := fun b nb fb => by
    refine ⟨?_, fb, ?_, fun x c q => ?_⟩
    · cases q : X.s_0.heap.get? b with
      | none => rfl
      | some o =>
        obtain ⟨o', q'⟩ := I.base.there b o q (by rw [B.ex]; simp)
        rw [nb] at q'
        cases q'
    · rintro rfl
      obtain ⟨m, ⟨oL, _, _, hL, _⟩, _⟩ := I.loc
      rw [hL] at nb
      cases nb
    · rintro rfl
      obtain ⟨v, o, ho, _⟩ := I.cell x c q
      rw [ho] at nb
      cases nb
  refine ⟨ea, cls, od, H', T, rfl, ⟨I2, mine ea n1 f1, ⟨vs, ex, z, h1⟩, ne, en, mine T n2 f2, fun p hp => ⟨fun w => ?_, fun w => ?_⟩⟩, q, un⟩
  · have := (I.pin p hp).1
    rw [w, n1] at this
    cases this
  · have := (I.pin p hp).1
    rw [w, n2] at this
    cases this
section
variable {P : Program} {w : World} {K : PySem.W.Frag} {mg : Str → Option Value} {base : Heap} {N : List Str} {qual : Str} {scope : Scope} {f : Addr} {cd : Value} {A : Around} {outer : List Env} {s : Shared} {H : Hp} {E : XK}
theorem body_cx {CX : CXT} : Body (cxOf CX P w K mg base N qual scope f cd A outer s H E) := ⟨rfl, rfl, rfl⟩
theorem xe_of {pins : List (Addr × Obj)} {σ : St} {H' : Hp} {s' : Shared} {ea : Addr} {cls : Value} {od : Option Addr} (F : Fly (cxOf (CXE P w) P w K mg base N qual scope f cd A outer s H E) pins σ H' s' ea cls od) (q : E cls od H') :
    (cxOf (CXE P w) P w K mg base N qual scope f cd A outer s H E).xe (.ref ea) s' := by
  refine leave_fly (A := (cxOf (CXE P w) P w K mg base N qual scope f cd A outer s H E).A) body_cx F.inv.ok.frames F fun s2 T M => ?_
  obtain ⟨vs, ex, z, h1⟩ := M.ex
  exact ⟨ea, cls, od, vs, T, H', rfl, M.inv.os, M.inv.bare, M.inv.base, M.inv.hok, ex, z, h1, M.ne, M.en, M.mine.new, M.mineT.new, M.mine.free, M.mineT.free, q⟩
end
theorem Fun.okE {P : Program} {w : World} {K : PySem.W.Frag} {mg : Str → Option Value} {base : Heap} {x qual : Str} {st : Stmt} {f : Addr} {fd : FuncData} {N ps : List Str} {k : Nat} {sp : Sp} (F : Fun K x qual st f fd) (S : FnScope N ps (defScope st)) (len : ∀ vs H Q E, sp vs H Q E → vs.length = ps.length)
    (hbody : ∀ (cdv : Value) (A : Around) (outer : List Env) (s : Shared) (H : Hp) (vs : List V) (Q : VK) (E : XK), Room k (A.deeper (envOfC qual (defScope st) s.heap.objs.size f cdv)) → sp vs H Q E →
      ∃ t, PSs (cxOf (CXE P w) P w K mg base N qual (defScope st) f cdv A outer s H E) (defBody st) t ∧ t { nx := fun _ H' => Q .non H', rt := Q } (start N vs) H) : FnOk P w K mg base (CXE P w) (k + 1) f fd ps sp := by
  obtain ⟨oc, od, kV, doc, pm, an, cdv, ct, osl, rfl, lk, hcd⟩ := F.ex
  exact fn_of lk hcd S len fun A outer s H vs Q E hr hsp => hbody cdv A outer s H vs Q E hr hsp
end L2
namespace L2
open PySem PySem.Spec PyProof.Rows
theorem ObjOk.there {P : Program} {w : World} {H : Hp} {h : Heap} {a : Addr} {o : HO} (x : ObjOk P w H h a o) : ∃ ob, h.get? a = some ob := by
  cases o with
  | lst xs => obtain ⟨_, _, _, _, e⟩ := x; exact ⟨_, e⟩
  | tup xs => obtain ⟨_, _, _, ob, e, _⟩ := x; exact ⟨_, e⟩
  | dK kvs => obtain ⟨_, _, _, _, o, _, _, e, _⟩ := x; exact ⟨_, e⟩
  | dT kvs => obtain ⟨_, _, _, _, o, _, _, e, _⟩ := x; exact ⟨_, e⟩
  | set S n => obtain ⟨o, _, _, _, e, _⟩ := x; exact ⟨_, e⟩
  | ins C dx fs => obtain ⟨_, _, _, e, _⟩ := x; exact ⟨_, e⟩
  | own y => exact x
  | xd fs => obtain ⟨_, ⟨_, _, _, e, _⟩, _⟩ := x; exact ⟨_, e⟩
  | rng lo hi => obtain ⟨_, _, _, e⟩ := x; exact ⟨_, e⟩
  | frz ob u => obtain ⟨e, _⟩ := x; exact ⟨_, e⟩
  | tbl ps => exact ⟨_, (show h.get? a = some _ from x)⟩
  | met f y => exact ⟨_, (show h.get? a = some _ from x)⟩
  | ext φ => obtain ⟨_, e, _⟩ := x; exact e
noncomputable def del (H : Hp) (a : Addr) : Hp := fun b => if b = a then none else H b
theorem del_same {H : Hp} {a : Addr} : del H a a = none := by unfold del; rw [if_pos rfl]
theorem del_ne {H : Hp} {a b : Addr} (h : b ≠ a) : del H a b = H b := by unfold del; rw [if_neg h]
theorem del_some {H : Hp} {a b : Addr} {o : HO} (e : del H a b = some o) : b ≠ a ∧ H b = some o := by
  by_cases h : b = a
  · subst h; rw [del_same] at e; cases e
  · rw [del_ne h] at e; exact ⟨h, e⟩
theorem Inv.untrack {X : Cx} {pins : List (Addr × Obj)} {σ : St} {H : Hp} {s : Shared} {a : Addr} {φ : Heap → Prop} (I : Inv X pins σ H s) (e : H a = some (.ext φ)) : Inv X pins σ (del H a) s := by
  have ne : ∀ b u, H b = some u → u ≠ .ext φ → b ≠ a := fun b u q n z => by
    rw [z, e] at q
    exact n (Option.some.inj q).symm
  have fr : ∀ b, H b = none → del H a b = none := fun b n => by
    by_cases h : b = a
    · rw [h, del_same]
    · rw [del_ne h]; exact n
  refine ⟨I.ok, I.os, I.bare, ⟨I.base.keep, I.base.slot, fun b o q n hx => fr b (I.base.free b o q n hx), I.base.there, fun b xs q => ?_, fun b o u q => ?_, fun b ps q => ?_⟩, I.loc, I.cell, fr _ I.free, fun x c q => fr c (I.freeC x c q), fun p hp => ?_, fun b u q => ?_, I.len⟩
  · have z := I.base.tups b xs q
    rw [del_ne (ne b _ z (by intro y; cases y))]
    exact z
  · have z := I.base.frzs b o u q
    rw [del_ne (ne b _ z (by intro y; cases y))]
    exact z
  · obtain ⟨more, z⟩ := I.base.tbls b ps q
    exact ⟨more, by rw [del_ne (ne b _ z (by intro y; cases y))]; exact z⟩
  · obtain ⟨p1, p2, p3⟩ := I.pin p hp
    exact ⟨p1, fr _ p2, p3⟩
  · obtain ⟨_, q'⟩ := del_some q
    refine (I.hok b u q').stay (fun _ _ _ z => z) (fun c z => ?_) fun c xs z => ?_
    · rw [del_ne (ne c _ z (by intro y; cases y))]; exact z
    · rw [del_ne (ne c _ z (by intro y; cases y))]; exact z
noncomputable def excTail : List Value := [.type "Exception", .type "BaseException", .type "object"]
noncomputable def tailExc : List Value → Bool
  | .ref _ :: r => tailExc r
  | l => l == excTail
theorem tail_has {n : String} : ∀ {l : List Value}, tailExc l = true → l.contains (.type n) = excTail.contains (.type n)
  | [], e => by cases e
  | v :: r, e => by
    cases v with
    | ref a =>
      have ih := tail_has (n := n) (l := r) e
      rw [List.contains_cons, ih]
      rfl
    | _ => rw [beq_iff_eq.mp (show (_ == excTail) = true from e)]
noncomputable def ExcCls (h : Heap) (C : Addr) (bm : List Value) : Prop := ∃ nm q N bs sn sub ab col dd k0 k1 k2 k3 k5, h.get? C = some (excClassObj nm q C N bs bm true sn sub ab col dd k0 k1 k2 k3 k5 "Exception.__new__")
noncomputable def xcIn (K : PySem.W.Frag) (C : Addr) : Bool := match K.lookup C with
  | some ⟨.type "type", _, .cls cd, sl⟩ => (match cd.mro, sl.toList with
    | .ref C' :: bm, [_, _, _, _, some (.builtin n), _] => C' == C && (n == "Exception.__new__" && (!cd.hasDel && (cd.hasDict && tailExc bm)))
    | _, _ => false)
  | _ => false
theorem xc_of {K : PySem.W.Frag} {h : Heap} {C : Addr} (X : K.In h) (q : xcIn K C = true) : ∃ bm, ExcCls h C bm ∧ tailExc bm = true ∧ ∃ cd, PySem.W.clsIn K C = some cd ∧ cd.hasDict = true ∧ cd.mro = .ref C :: bm := by
  unfold xcIn at q
  split at q
  · rename_i dd cd sl ho
    split at q
    · rename_i C1 bm k0 k1 k2 k3 n k5 hm hs
      simp only [Bool.and_eq_true, beq_iff_eq, Bool.not_eq_true'] at q
      obtain ⟨q1, q2, q3, q4, q5⟩ := q
      subst q1 q2
      refine ⟨bm, ?_, q5, cd, by unfold PySem.W.clsIn; rw [ho], q4, hm⟩
      obtain ⟨nm, bs, mro, ns, qn, hd, sn, sub, ab, col, dl⟩ := cd
      obtain ⟨l⟩ := sl
      simp only at hm hs q3 q4
      subst hm q3 q4 hs
      exact ⟨nm, qn, ns, bs, sn, sub, ab, col, dd, k0, k1, k2, k3, k5, X _ _ ho⟩
    · cases q
  · cases q
end L2
namespace L2
open PySem PySem.Spec
section
variable {prog : Program} {w : World} {A : Around} {E : Value → Shared → Prop} {h : Heap} {g : Array GenState} {d : Drawn} {t : Nat} {os : OsState} {C : Addr} {bm : List Value} {M : Model}
theorem chk_new {rest : List Value} {Q : Unit → Shared → Prop} (hK : ExcCls h C bm) (ht : tailExc bm = true) (hq : Q () ⟨h, g, d, t, os⟩) : wpAny M A (checkBuiltinCall "Exception.__new__" ⟨.ref C :: rest, []⟩) Q E ⟨h, g, d, t, os⟩ := by
  have F := PySem.F.excBase_Exception
  obtain ⟨nm, q, N, bs, sn, sub, ab, col, dd, k0, k1, k2, k3, k5, kC⟩ := hK
  have cB : (Value.ref C :: bm).contains (.type "Exception") = true := by rw [List.contains_cons, tail_has ht]; rfl
  have ns := F.noStar
  simp only [checkBuiltinCall, F.newKind, F.newSplit, F.newRow]
  repeat (first
    | refine wpAny_madeBy_exc kC ?_
    | refine wpAny_staticBase_exc kC ?_
    | (refine wpAny_isSubtype_exc kC ?_; rw [cB])
    | refine wpAny_loadPart_at kC ?_
    | simp only [bne_self_eq_false, Bool.false_eq_true, if_false]
    | wp_step)
  exact hq
theorem new_exc {R : Result → Shared → Prop} {rest : List Value} (hK : ExcCls h C bm) (ht : tailExc bm = true)
    (hq : R (.ok (.ret (.ref (h.objs.size + 1)))) ⟨(h.push { cls := .type "tuple", data := .seq rest.toArray }).push { cls := .ref C, data := .fields #[.ref h.objs.size, .none, .none, .none, .bool false, .none] }, g, d, t, os⟩) (hr : rest.length ≤ sizeLine) :
    codeAny (model prog w) A (.builtin "Exception.__new__" ⟨.ref C :: rest, []⟩) R ⟨h, g, d, t, os⟩ := by
  have F := PySem.F.excBase_Exception
  obtain ⟨nm, q, N, bs, sn, sub, ab, col, dd, k0, k1, k2, k3, k5, kC⟩ := hK
  have fe := F.ends
  have cB : (Value.ref C :: bm).contains (.type "Exception") = true := by rw [List.contains_cons, tail_has ht]; rfl
  have cA : (Value.ref C :: bm).contains (.type "AttributeError") = false := by rw [List.contains_cons, tail_has ht]; rfl
  have cN : (Value.ref C :: bm).contains (.type "NameError") = false := by rw [List.contains_cons, tail_has ht]; rfl
  refine codeAny_builtinAt F.entry ?_
  unfold Builtin.«BaseException.__new__»
  refine wpAt_bind ?_
  show wpAt _ _ _ (stack >>= _) _ _ _
  refine wpAt_bind (wpAt_stack fun p below => wpAt_of_wpAny ?_)
  wp_walk
  refine wpAt_of_wpAny ?_
  rw [F.owner]
  repeat (first
    | with_reducible refine wpAny_madeHere_exc F.canon kC ?_
    | with_reducible refine wpAny_loadPart_at kC ?_
    | (with_reducible refine wpAny_isSubtype_exc kC ?_; first | rw [cB] | rw [cA] | rw [cN])
    | wp_step)
  show R _ _
  rw [Heap.size_push]
  exact hq
theorem call_exc {K : PySem.W.Frag} {rest : List Value} {fI : Addr} {Q : Value → Shared → Prop} (X : K.In h) (hK : ExcCls h C bm) (ht : tailExc bm = true)
    (hi : PySem.W.findIn K (.ref C) "__init__" = some (some (.ref fI))) (hf : PySem.W.typeIn K (.ref fI) = some (.type "function")) (hr : rest.length ≤ sizeLine)
    (hq : wpAny (model prog w) (A.under (.builtin "type.__call__" ⟨.ref C :: rest, []⟩)) (call (.ref fI) (.ref (h.objs.size + 1) :: rest)) (fun r s' => r = .none ∧ Q (.ref (h.objs.size + 1)) s') E
      ⟨(h.push { cls := .type "tuple", data := .seq rest.toArray }).push { cls := .ref C, data := .fields #[.ref h.objs.size, .none, .none, .none, .bool false, .none] }, g, d, t, os⟩) :
    wpAny (model prog w) A (call (.ref C) rest) Q E ⟨h, g, d, t, os⟩ := by
  have f1 := tc_lookup
  have f2 := tc_bind (.ref C)
  obtain ⟨nm, q, N, bs, sn, sub, ab, col, dd, k0, k1, k2, k3, k5, kC⟩ := id hK
  have hT : (⟨h, g, d, t, os⟩ : Shared).TypeIs (.ref C) "type" := ⟨_, kC, rfl⟩
  have F := PySem.F.excBase_Exception
  refine wpAny_call (codeAny_of_tree ?_)
  show wpAny _ _ (callAny (.ref C) _) _ _ _
  repeat (any_goals (first
    | assumption
    | with_reducible refine wpAny_loadPart_at kC ?_
    | wp_step))
  refine ⟨rfl, ?_⟩
  refine codeAny_call_builtin_at (Code.quiet_builtin _ (by decide +kernel)) entry_typeCall (wpAny_check_type_call_sub kC ?_)
  repeat (first
    | with_reducible refine wpAny_loadPart_at kC ?_
    | with_reducible refine wpAny_madeBy_exc kC ?_
    | wp_step)
  refine codeAny_call_builtin_code (Code.quiet_builtin _ F.quiet) (chk_new hK ht ?_)
  refine new_exc hK ht ?_ hr
  show wpAny _ _ _ _ _ _
  have kp : ∀ b o, h.get? b = some o → ((h.push { cls := .type "tuple", data := .seq rest.toArray }).push { cls := .ref C, data := .fields #[.ref h.objs.size, .none, .none, .none, .bool false, .none] }).get? b = some o := fun b o e => Heap.get?_push_of_some _ (Heap.get?_push_of_some _ e)
  have kC2 := kp _ _ kC
  have X2 := X.keeps kp
  have hget : ((h.push { cls := .type "tuple", data := .seq rest.toArray }).push { cls := .ref C, data := .fields #[.ref h.objs.size, .none, .none, .none, .bool false, .none] }).get? (h.objs.size + 1) = some { cls := .ref C, data := .fields #[.ref h.objs.size, .none, .none, .none, .bool false, .none] } := by heap_get
  have cC : (Value.ref C :: bm).contains (.ref C) = true := by simp
  unfold isInstance
  repeat (first
    | with_reducible refine wpAny_loadPart_at hget ?_
    | (refine wpAny_isSubtype_exc kC2 ?_; rw [cC])
    | wp_step)
  show wpAny _ _ (typeLookup (.ref C) _) _ _ _
  refine (PySem.W.looks_findIn X2 hi).at ?_
  refine wpAny_holding (wpAny_bind ?_)
  refine (PySem.W.bind_fn X2 _ hf).at ?_
  refine wpAny_bind (wpAny_mono hq (fun r s' hr => ?_) fun _ _ z => z)
  obtain ⟨rfl, hQ⟩ := hr
  wp_walk
  exact hQ
end
end L2
namespace L2
open PySem PySem.Spec
theorem refuse_exc (self : Value) : ∀ {l : List Value}, tailExc l = true → refuseLoop self "__setattr__" l = pure ()
  | [], e => by cases e
  | v :: r, e => by
    cases v with
    | ref a => rw [refuseLoop_ref]; exact refuse_exc self e
    | _ => rw [beq_iff_eq.mp (show (_ == excTail) = true from e)]; exact PySem.F.store_Exception.passes self
section
variable {prog : Program} {w : World} {A : Around} {E : Value → Shared → Prop} {s : Shared} {K : PySem.W.Frag} {x C : Addr} {ox : Obj} {vs : Array Value} {name : Str} {v : Value}
theorem xset {Q : Unit → Shared → Prop} (X : K.In s.heap) (hx : s.heap.get? x = some ox) (hcl : ox.cls = .ref C) (hdi : ox.dict = none) (hda : ox.data = .fields vs) (hK : xcIn K C = true)
    (hs : PySem.W.findIn K (.ref C) "__setattr__" = some (some (.builtin "object.__setattr__"))) (hn : PySem.W.findIn K (.ref C) name = some none)
    (h : ∀ h', h'.get? x = some { ox with dict := some s.heap.objs.size } → h'.Ns1 s.heap.objs.size (fun y => if y = name then some v else none) → (∀ b o, b ≠ x → s.heap.get? b = some o → h'.get? b = some o) → Q () { s with heap := h', toks := s.toks + 2 }) :
    wpAny (model prog w) A (setAttr (.ref x) name v) Q E s := by
  obtain ⟨bm, _, htl, cd, hc, hhd, hm⟩ := xc_of X hK
  obtain ⟨oc, od, odt, osl⟩ := ox
  dsimp only at hcl hdi hda
  subst hcl hdi hda
  have I : PySem.W.InstAt s.heap x ⟨.ref C, none, .fields vs, osl⟩ C none := ⟨hx, rfl, rfl, trivial⟩
  have SF := PySem.F.store_object
  refine PySem.W.set_plain X I hs ?_
  have ho : cd.mro.contains (.type "object") = true := by rw [hm, List.contains_cons, tail_has htl]; rfl
  have ne : cd.mro.isEmpty = false := by rw [hm]; rfl
  have sub : PySem.W.Looks (model prog w) s.heap (isInstance (.ref x) (.type "object")) true := I.type.andThen (PySem.W.looks_mroIn X (by unfold PySem.W.mroIn; rw [hc, Option.bind_some, if_neg (by rw [ne]; decide), ho]))
  refine codeAny_call_builtin SF.slot.plain SF.entry (@PySem.W.check_slot (model prog w) _ _ { s with toks := s.toks + 1 } "object.__setattr__" "object" "__setattr__" (.ref x) [.str name s.toks, v] [] _ SF.kind SF.split sub (SF.args (.ref x) (.str name s.toks) v) ?_)
  have hmr : PySem.W.Looks (model prog w) s.heap (mroOf (.ref C)) cd.mro := (PySem.W.looks_clsIn X hc).andThen .now
  rw [PySem.W.osa_eq, refuse_eq]
  refine wpAny_bind (wpAny_bind (PySem.W.Looks.here (s := { s with toks := s.toks + 1 }) I.type (wpAny_bind (PySem.W.Looks.here (s := { s with toks := s.toks + 1 }) hmr ?_))))
  rw [refuse_exc _ (show tailExc cd.mro = true by rw [hm]; exact htl)]
  refine wpAny_pure (wpAny_bind (PySem.W.Looks.here (s := { s with toks := s.toks + 1 }) I.type (wpAny_bind (PySem.W.Looks.here (s := { s with toks := s.toks + 1 }) (PySem.W.looks_findIn X hn) (wpAny_bind (wpAny_pure ?_))))))
  dsimp only
  refine wpAny_bind (wpAny_pure (wpAny_bind (wpAny_bind (wpAny_loadPart hx (wpAny_bind (PySem.W.Looks.here (s := { s with toks := s.toks + 1 }) (PySem.W.looks_clsIn X hc) ?_))))))
  rw [hhd]
  have nx : x ≠ s.heap.objs.size := Nat.ne_of_lt (Heap.lt_size hx)
  have hx1 : (s.heap.push { cls := .type "dict", data := .dict #[] }).get? x = some ⟨.ref C, none, .fields vs, osl⟩ := Heap.get?_push_of_some _ hx
  refine wpAny_bind (wpAny_alloc' ?_)
  refine wpAny_bind (wpAny_update' hx1 ?_)
  refine wpAny_pure ?_
  generalize hg : ((s.heap.push { cls := .type "dict", data := .dict #[] }).update x fun o => { cls := o.cls, dict := some s.heap.objs.size, data := o.data, slots := o.slots }) = g1
  have g1x : g1.get? x = some ⟨.ref C, some s.heap.objs.size, .fields vs, osl⟩ := by rw [← hg]; exact Heap.get?_update_self _ hx1 rfl
  have g1d : g1.get? s.heap.objs.size = some { cls := .type "dict", data := .dict #[] } := by rw [← hg]; exact (Heap.get?_update_ne _ _ _ _ nx.symm).trans (Heap.get?_push_at rfl rfl)
  have g1k : ∀ b o, b ≠ x → s.heap.get? b = some o → g1.get? b = some o := fun b o hb e => by rw [← hg]; exact (Heap.get?_update_ne _ _ _ _ hb).trans (Heap.get?_push_of_some _ e)
  have nd : g1.Ns s.heap.objs.size (fun _ => none) := ⟨_, #[], _, g1d, rfl, fun e he => absurd he (by simp), fun _ => rfl⟩
  show wpAny _ _ (Builtin.ObjectAttr.storeInDict s.heap.objs.size (.str name s.toks) name v) _ _ _
  unfold Builtin.ObjectAttr.storeInDict Builtin.ObjectAttr.newKeyGuard
  refine wpAny_bind (wpAny_pure (wpAny_bind (wpAny_nsSet1 (Heap.Ns1.of_empty nd) fun h2 hn2 hs2 => ?_)))
  obtain ⟨oD, esD, epD, hoD, hdD, hcD⟩ := hn2.count (Within.cons name v Within.nil)
  refine wpAny_bind (wpAny_lookBehind hoD (by rw [hdD]; exact pastItsLine_dict (Nat.le_trans hcD (by rw [List.length_cons, List.length_nil, sizeLine_eq]; omega))) ?_)
  refine wpAny_pure (h h2 ((hs2.2 x nx).trans g1x) hn2 fun b o hb e => (hs2.2 b (Nat.ne_of_lt (Heap.lt_size e))).trans (g1k b o hb e))
end
end L2
namespace L2
open PySem PySem.Spec
section
variable {prog : Program} {w : World} {A : Around} {E : Value → Shared → Prop} {s : Shared} {env : Env}
theorem raise_calm {x : Sem Value} {Q : Flow → Shared → Prop} (hh : A.handled = none)
    (h : wpAny (model prog w) A x (fun v s1 => ∃ e oe vs C bm, v = .ref e ∧ ExcCls s1.heap C bm ∧ tailExc bm = true ∧ s1.heap.get? e = some oe ∧ oe.cls = .ref C ∧ oe.data = .fields vs ∧ vs[1]? = some .none ∧ E (.ref e) s1) E s) :
    wpAny (model prog w) A (raiseStmt env (some x) none) Q E s := by
  unfold raiseStmt
  refine wpAny_bind (wpAny_mono h (fun v s1 h1 => ?_) fun _ _ z => z)
  obtain ⟨e, oe, vs, C, bm, rfl, ⟨nm, q, N, bs, sn, sub, ab, col, dd, k0, k1, k2, k3, k5, kC⟩, htl, he, hcl, hda, hv1, hE⟩ := h1
  obtain ⟨hp, g, d, tk, os⟩ := s1
  obtain ⟨oc, od, odt, osl⟩ := oe
  dsimp only at hcl hda
  subst hcl hda
  have cB : (Value.ref C :: bm).contains (.type "BaseException") = true := by rw [List.contains_cons, tail_has htl]; rfl
  repeat (first
    | with_reducible refine wpAny_loadPart_at he ?_
    | with_reducible refine wpAny_loadPart_at kC ?_
    | (with_reducible refine wpAny_isSubtype_exc kC ?_; rw [cB])
    | wp_step)
  rw [hv1]
  refine wpAny_pure ?_
  rw [if_neg (by decide)]
  exact wpAny_pure (wpAny_raiseNew_none hh hE)
end
end L2
namespace L2
open PySem PySem.Spec PyProof.Rows
noncomputable def XO (e C : Addr) (od : Option Addr) (vs : Array Value) : HO := .ext fun h => ExcAt h e (.ref C) od vs
theorem xo_ok {P : Program} {w : World} {H : Hp} {h : Heap} {e C : Addr} {od : Option Addr} {vs : Array Value} (x : ExcAt h e (.ref C) od vs) : ObjOk P w H h e (XO e C od vs) := by
  obtain ⟨oe, a, r⟩ := id x
  exact ⟨x, ⟨oe, a⟩, fun h1 h2 p k => ExcAt.kept p k⟩
structure XCls (K : PySem.W.Frag) (C : Addr) : Prop where
  xc : xcIn K C = true
  sa : PySem.W.findIn K (.ref C) "__setattr__" = some (some (.builtin "object.__setattr__"))
noncomputable def sXFld (K : PySem.W.Frag) (ta tv : TE) (f : Str) : TS := fun D σ H => tv σ H fun y H1 => ta σ H1 fun x H2 => ∃ e C vs, x = .ref e ∧ H2 e = some (XO e C none vs) ∧ XCls K C ∧ NoAttr K C f ∧
  ∀ d, H2 d = none → d ≠ e → D.nx σ (upd (upd H2 d (.xd [(f, y)])) e (XO e C (some d) vs))
theorem ps_xfld {X : Cx} {o value : Expr} {f : Str} {pos pos' : Pos} {ta tv : TE} (ha : PE X o ta) (hv : PE X value tv) (hs : swapsWith value (some (.Attribute o f pos')) pos.line X.env = pure false) : PS X (.Assign [.Attribute o f pos'] value pos) (sXFld X.K ta tv f) := by
  intro pins s σ H D I h
  refine plainObj_wpAny_Assign_Attribute (thn (hv pins s σ H _ I h) fun u s1 ⟨y, H1, I1, ry, q⟩ => thn (ha pins s1 σ H1 _ I1 q) fun ov s2 ⟨x, H2, I2, rx, e, C, vs, ex, ee, c, n, q2⟩ => ?_) hs
  subst ex
  obtain rfl : ov = Value.ref e := rx
  obtain ⟨⟨oe, o1, o2, o3, o4⟩, _, _⟩ := (show ObjOk X.prog X.w H2 s2.heap e (XO e C none vs) from I2.hok e _ ee)
  refine xset I2.kIn o1 o2 o3 o4 c.xc c.sa n fun h' hx hn hk => ?_
  have nd : H2 s2.heap.objs.size = none := I2.hok.fresh (Nat.le_refl _)
  have ne : s2.heap.objs.size ≠ e := (ne_of_none ee nd).symm
  generalize hd : s2.heap.objs.size = d at hx hn nd ne
  have he3 : ∀ b u, H2 b = some u → b ≠ d := fun b u z => ne_of_none z nd
  have up : ∀ b u, H2 b = some u → b ≠ e → upd (upd H2 d (.xd [(f, y)])) e (XO e C (some d) vs) b = some u := fun b u z hb => by
    rw [upd_ne hb, upd_ne (he3 b u z)]
    exact z
  have un : Un X.fs [] H2 (upd (upd H2 d (.xd [(f, y)])) e (XO e C (some d) vs)) s2.heap h' := by
    have neE : ∀ b, H2 b = none → b ≠ e := fun b z w => by rw [w, ee] at z; cases z
    refine ⟨fun b o z n _ _ => hk b o (neE b n) z, fun b o z n _ _ => ⟨o.slots, hk b o (neE b n) z⟩, fun b o z n _ => ?_, fun b o z _ => ?_, fun b xs z => ?_, fun b ob u z => ?_, fun b ps z => ⟨#[], ?_⟩⟩
    · rw [upd_ne (neE b n), upd_ne (by rw [← hd]; exact Nat.ne_of_lt (Heap.lt_size z))]
      exact n
    · by_cases hb : b = e
      · subst hb; exact ⟨_, hx⟩
      · exact ⟨o, hk b o hb z⟩
    · exact up b _ z (ne_of z ee (by intro w; cases w))
    · exact up b _ z (ne_of z ee (by intro w; cases w))
    · rw [up b _ z (ne_of z ee (by intro w; cases w))]; simp
  have hok : HOk X.prog X.w (upd (upd H2 d (.xd [(f, y)])) e (XO e C (some d) vs)) h' := fun b ob z => by
    by_cases hb : b = e
    · subst hb
      rw [upd_same] at z
      cases z
      exact xo_ok ⟨_, hx, o2, rfl, o4⟩
    · rw [upd_ne hb] at z
      by_cases hbd : b = d
      · subst hbd
        rw [upd_same] at z
        cases z
        refine ⟨_, hn, fun g => ?_⟩
        show RelO ((putF f y []).lookup g) (if g = f then some u else none)
        rw [lookup_putF]
        by_cases hg : g = f
        · rw [if_pos hg, if_pos hg]; exact ry
        · rw [if_neg hg, if_neg hg]; exact True.intro
      · rw [upd_ne hbd] at z
        refine (I2.hok b ob z).stay (fun c v hc w => hk c v ?_ w) (fun c w => up c _ w (ne_of w ee (by intro r; cases r))) fun c xs w => up c _ w (ne_of w ee (by intro r; cases r))
        rcases hc with w | w
        · rw [w]; exact hb
        · exact ne_of w ee (by intro r; cases r)
  exact ⟨σ, _, I2.un (t' := s2.toks + 2) un hok, q2 d nd ne⟩
structure CMeth (K : PySem.W.Frag) (C : Addr) (m : Str) (f : Addr) : Prop where
  ga : PySem.W.specialIn K (.ref C) "__getattribute__" = some (some (.builtin "type.__getattribute__"))
  rd : PySem.W.readsIn K C (.type "type") = true
  at_ : PySem.W.findCls K (.ref C) (.type "type") m = some (.val (.ref f))
  kp : PySem.W.keepIn K (.ref f) = true
end L2
namespace L2
open PySem PySem.Spec PyProof.Rows
noncomputable def Flies (X : Cx) (E : XK) : Prop := ∀ (pins : List (Addr × Obj)) (σ : St) (H : Hp) (s : Shared) (ea : Addr) (cls : Value) (od : Option Addr), Fly X pins σ H s ea cls od → E cls od H → X.xe (.ref ea) s
theorem fliesE {P : Program} {w : World} {K : PySem.W.Frag} {mg : Str → Option Value} {base : Heap} {N : List Str} {qual : Str} {scope : Scope} {f : Addr} {cd : Value} {A : Around} {outer : List Env} {s : Shared} {H : Hp} {E : XK} :
    Flies (cxOf (CXE P w) P w K mg base N qual scope f cd A outer s H E) E := fun _ _ _ _ _ _ _ F q => xe_of F q
theorem mine_of {X : Cx} {pins : List (Addr × Obj)} {σ : St} {H H' : Hp} {s : Shared} {b : Addr} (B : Body X) (I : Inv X pins σ H s) (nb : s.heap.get? b = none) (fb : H' b = none) : Mine X H' b := by
  refine ⟨?_, fb, ?_, fun x c q => ?_⟩
  · cases q : X.s_0.heap.get? b with
    | none => rfl
    | some o =>
      obtain ⟨o', q'⟩ := I.base.there b o q (by rw [B.ex]; simp)
      rw [nb] at q'
      cases q'
  · rintro rfl
    obtain ⟨m, ⟨oL, _, _, hL, _⟩, _⟩ := I.loc
    rw [hL] at nb
    cases nb
  · rintro rfl
    obtain ⟨v, o, ho, _⟩ := I.cell x c q
    rw [ho] at nb
    cases nb
theorem fly_new {X : Cx} {pins : List (Addr × Obj)} {σ : St} {H H' : Hp} {s s0 : Shared} {e : Addr} {cls : Value} {od : Option Addr} {vs : Array Value} (B : Body X) (I0 : Inv X pins σ H s0) (ne : s0.heap.get? e = none) (I : Inv X pins σ H' s) (fe : H' e = none)
    (x : ExcAt s.heap e cls od vs) (c : CtxOk vs od) (h1 : vs[1]? = some .none) : Fly X pins σ H' s e cls od := by
  refine ⟨I, mine_of B I0 ne fe, ⟨vs, x, c, .none h1⟩, fun p hp => ⟨(I.pin p hp).1, fun w => ?_, fun ws y T q => ?_⟩⟩
  · have z := (I0.pin p hp).1
    rw [w, ne] at z
    cases z
  · rw [exc_one y x, h1] at q
    cases q
structure RoomN (k : Nat) (A : Around) : Prop where
  dp : A.depth + 3 * k + 5 < recursionLimit
  un : A.units + 16 * k + 200 < cLine
theorem Room.n {k : Nat} {A : Around} (r : Room k A) : RoomN k A := ⟨r.dp, r.un⟩
theorem RoomN.deeper {k : Nat} {A : Around} (r : RoomN (k + 1) A) (env : Env) : RoomN k (A.deeper env) :=
  ⟨by have := r.dp; show A.depth + 1 + 3 * k + 5 < _; omega, by have := r.un; show A.units + 3 + 16 * k + 200 < _; omega⟩
theorem RoomN.make {k : Nat} {A : Around} (r : RoomN (k + 1) A) (C : Addr) (us : List Value) (kw : List (Str × Value)) : RoomN k (A.under (.builtin "type.__call__" ⟨.ref C :: us, kw⟩)) :=
  ⟨by have := r.dp; rw [make_depth]; omega, by have := r.un; rw [make_units]; omega⟩
theorem RoomN.depth {k : Nat} {A : Around} (r : RoomN k A) : A.depth < recursionLimit := by have := r.dp; omega
structure FnOkN (P : Program) (w : World) (K : PySem.W.Frag) (mg : Str → Option Value) (base : Heap) (CX : CXT) (k : Nat) (f : Addr) (fd : FuncData) (ps : List Str) (sp : Sp) : Prop where
  len : ∀ vs H Q E, sp vs H Q E → vs.length = ps.length
  run : ∀ (A : Around) (outer : List Env) (s : Shared) (H : Hp) (args : Args) (us : List Value) (vs : List V) (Q : VK) (E : XK), RoomN k A → Env0 P w K mg base A outer s H → BindsTo s fd args (ps.zip us) → Vals vs us → sp vs H Q E →
    codeAny (model P w) A (.call (.ref f) args) (CR CX outer P w H s Q E) s
noncomputable def cxN (CX : CXT) (P : Program) (w : World) (K : PySem.W.Frag) (mg : Str → Option Value) (base : Heap) (N : List Str) (qual : Str) (scope : Scope) (f : Addr) (cd : Value) (A : Around) (outer : List Env) (s : Shared) (H : Hp) (E : XK) : Cx :=
  { cxOf CX P w K mg base N qual scope f cd A outer s H E with calm := false }
theorem inv_startN {CX : CXT} {P : Program} {w : World} {K : PySem.W.Frag} {mg : Str → Option Value} {base : Heap} {N ps : List Str} {qual : Str} {scope : Scope} {f : Addr} {cd : Value} {A : Around} {outer : List Env} {s s1 : Shared} {H : Hp} {E : XK} {us : List Value} {vs : List V}
    (S : FnScope N ps scope) (e0 : Env0 P w K mg base A outer s H) (hl : vs.length = ps.length) (r : Vals vs us)
    (x : InCallC s s.heap.objs.size (bindL (envOfC qual scope s.heap.objs.size f cd).kindOf (ps.zip us) fun _ => none) (cellsFrom (s.heap.objs.size + 1) scope.names []) (bindC (envOfC qual scope s.heap.objs.size f cd).kindOf (ps.zip us) fun _ => none) s1) :
    Inv (cxN CX P w K mg base N qual scope f cd A outer s H E) [] (start N vs) H s1 := by
  have hpl : ps.length ≤ N.length := by have := congrArg List.length S.pre; rw [List.length_take] at this; omega
  obtain ⟨h1, tk, rfl, hk⟩ := x.done
  have noA : ∀ b : Addr, b ∉ (cxN CX P w K mg base N qual scope f cd A outer s H E).ex := fun b z => absurd (show b ∈ ([] : List Addr) from z) (by simp)
  refine ⟨⟨e0.mod, S.kind, rfl, rfl, Nat.le_refl _, fun y z c h1 h2 => ?_, fun y hy => ?_, fun y c _ h => ?_, fun z => (by cases z), Around.frames_deeper e0.frames, .inr ⟨rfl, rfl⟩, fun b z => absurd z (noA b), e0.bs, e0.bsz, fun b _ _ => noA b, fun b z => absurd z (noA b), e0.funs, e0.frf⟩,
    rfl, e0.bare, Un.kept hk, ⟨_, x.toInCall.ns, fun i y v h1 h2 h3 => ?_⟩, fun y c h => ⟨_, x.cell y c h⟩, e0.hok.fresh (Nat.le_refl _), fun y c h => ?_, fun p hp => absurd (show p ∈ ([] : List (Addr × Obj)) from hp) (by simp), e0.hok.kept hk, ?_⟩
  · exact name_of_addr x.apart (PySem.mem_of_lookup h1) (PySem.mem_of_lookup h2)
  · have hy : scope.names.lookup y = some .cell ∨ scope.names.lookup y = some .free := hy
    rcases hy with hy | hy
    · exact cell_has hy
    · exact absurd rfl (S.nofree _ (PySem.mem_of_lookup hy))
  · exact Nat.le_of_lt (x.above y c (PySem.mem_of_lookup h))
  · have hi : i < vs.length := by
      unfold start at h2
      by_cases hi : i < vs.length
      · exact hi
      · rw [List.getElem?_append_right (by simpa using hi)] at h2
        rw [List.getElem?_replicate] at h2
        split at h2 <;> cases h2
    have ha : vs[i]? = some v := by
      unfold start at h2
      rw [List.getElem?_append_left (by simpa using hi), List.getElem?_map] at h2
      cases e : vs[i]? with
      | none => rw [e] at h2; cases h2
      | some a => rw [e] at h2; cases h2; rfl
    obtain ⟨u, hu, rv⟩ := r.get ha
    have hp : ps[i]? = some y := by
      rw [← S.pre, List.getElem?_take_of_lt (by omega)]; exact h1
    have ndP : ps.Nodup := by rw [← S.pre]; exact S.nd.sublist (List.take_sublist _ _)
    refine ⟨u, rv, ?_⟩
    rcases S.par y (List.mem_of_getElem? hp) with k | k
    · exact .inl ⟨k, bindL_get ndP hp hu k⟩
    · obtain ⟨c, e⟩ := cell_has (n := s.heap.objs.size + 1) k
      refine .inr ⟨.inl k, c, e, ?_⟩
      have q := x.cell y c e
      rw [bindC_get ndP hp hu (by show scope.names.lookup y ≠ _; rw [k]; decide)] at q
      exact q
  · exact e0.hok.fresh (Nat.le_of_lt (x.above y c (PySem.mem_of_lookup h)))
  · unfold start
    show _ = N.length
    rw [List.length_append, List.length_map, List.length_replicate]
    omega
theorem fn_ofN {CX : CXT} {P : Program} {w : World} {K : PySem.W.Frag} {mg : Str → Option Value} {base : Heap} {k : Nat} {f : Addr} {name qual : Str} {params : Arguments} {body : List Stmt} {scope : Scope} {dV kV doc pm cdv ct oc : Value} {an od : Option Addr}
    {osl : Array (Option Value)} {N ps : List Str} {sp : Sp} (lk : K.lookup f = some ⟨oc, od, .func (PySem.W.fnOf name qual params body scope dV kV doc pm an cdv ct), osl⟩) (hcd : PySem.W.codeIn K cdv qual = true) (S : FnScope N ps scope)
    (len : ∀ vs H Q E, sp vs H Q E → vs.length = ps.length)
    (hbody : ∀ (A : Around) (outer : List Env) (s : Shared) (H : Hp) (vs : List V) (Q : VK) (E : XK), RoomN k (A.deeper (envOfC qual scope s.heap.objs.size f cdv)) → sp vs H Q E →
      ∃ t, PSs (cxN CX P w K mg base N qual scope f cdv A outer s H E) body t ∧ t { nx := fun _ H' => Q .non H', rt := Q } (start N vs) H) :
    FnOkN P w K mg base CX (k + 1) f (PySem.W.fnOf name qual params body scope dV kV doc pm an cdv ct) ps sp := by
  refine ⟨len, fun A outer s H args us vs Q E hr e0 hb r hsp => ?_⟩
  have hl := len _ _ _ _ hsp
  have KX : K.In s.heap := e0.mod.kin.keeps fun b o e => (e0.bs b o e).1
  have lim : s.heap.NoLimit := e0.mod.nolimit.keeps fun b o e => (e0.bs b o e).1
  have hkind : ∀ y ∈ ps.zip us, scope.names.lookup y.1 = some .local ∨ (scope.names.lookup y.1 = some .cell ∧ ((cellsFrom (s.heap.objs.size + 1) scope.names []).lookup y.1).isSome = true) := fun ⟨n, v⟩ hy => by
    rcases S.par n (List.of_mem_zip hy).1 with q | q
    · exact .inl q
    · exact .inr ⟨q, PySem.W.cellsFrom_some _ _ _ (.inl q)⟩
  refine codeAny_call_function hr.depth (KX _ _ lk) rfl S.co S.gen rfl (PySem.W.codeRec_of KX hcd) (hb _ _ _ _ ?_)
  refine wpAny_newFunctionEnv_cells S.kind hkind fun env he s1 x => ?_
  subst he
  refine ⟨lim.keeps x.toInCall.keep, codeAny_func ?_⟩
  obtain ⟨t, ht, hq⟩ := hbody A outer s H vs Q E (hr.deeper _) hsp
  have I : Inv (cxN CX P w K mg base N qual scope f cdv A outer s H E) [] (start N vs) H s1 := inv_startN S e0 hl r x
  refine wpAny_mono (ht [] s1 (start N vs) H _ I hq) (fun fl s' hs => ?_) fun e s' hs => hs
  have fin : ∀ {σ' : St} {H' : Hp} {v : V} {u : Value}, Inv (cxN CX P w K mg base N qual scope f cdv A outer s H E) [] σ' H' s' → RelV v u → Q v H' → CE outer P w H s Q u s' :=
    fun {σ' H' v u} J rv q => ⟨v, H', J.os, J.bare, J.base, J.hok, rv, q⟩
  cases fl with
  | ret u =>
    obtain ⟨v, σ', H', J, rv, q⟩ := hs
    exact fin J rv q
  | next =>
    obtain ⟨σ', H', J, q⟩ := hs
    exact fin (v := V.non) (u := Value.none) J rfl q
  | brk =>
    obtain ⟨_, _, _, q⟩ := hs
    exact False.elim q
  | cont =>
    obtain ⟨_, _, _, q⟩ := hs
    exact False.elim q
theorem Fun.okN {P : Program} {w : World} {K : PySem.W.Frag} {mg : Str → Option Value} {base : Heap} {CX : CXT} {x qual : Str} {st : Stmt} {f : Addr} {fd : FuncData} {N ps : List Str} {k : Nat} {sp : Sp} (F : Fun K x qual st f fd) (S : FnScope N ps (defScope st)) (len : ∀ vs H Q E, sp vs H Q E → vs.length = ps.length)
    (hbody : ∀ (cdv : Value) (A : Around) (outer : List Env) (s : Shared) (H : Hp) (vs : List V) (Q : VK) (E : XK), RoomN k (A.deeper (envOfC qual (defScope st) s.heap.objs.size f cdv)) → sp vs H Q E →
      ∃ t, PSs (cxN CX P w K mg base N qual (defScope st) f cdv A outer s H E).nox (defBody st) t ∧ t { nx := fun _ H' => Q .non H', rt := Q } (start N vs) H) : FnOkN P w K mg base CX (k + 1) f fd ps sp := by
  obtain ⟨oc, od, kV, doc, pm, an, cdv, ct, osl, rfl, lk, hcd⟩ := F.ex
  refine fn_ofN lk hcd S len fun A outer s H vs Q E hr hsp => ?_
  obtain ⟨t, h, q⟩ := hbody cdv A outer s H vs Q E hr hsp
  exact ⟨t, h.nox, q⟩
theorem run_fnN {X : Cx} {CX : CXT} {k : Nat} {f : Addr} {fd : FuncData} {ps : List Str} {sp : Sp} {E : XK} {A : Around} {pins : List (Addr × Obj)} {σ : St} {H : Hp} {s : Shared} {Q : VK} {us : List Value} {vs : List V} {EE : Value → Shared → Prop} (F : FnOkN X.prog X.w X.K X.mg X.base CX k f fd ps sp) (hr : RoomN k A) (hA : A.frames = some X.stack) (hb : Binds X.K fd ps [])
    (hx : ∀ e s', CX X.stack H s E e s' → EE e s') (I : Inv X pins σ H s) (r : Vals vs us) (h : sp vs H Q E) : wpAny (model X.prog X.w) A (call (.ref f) us) (EP X pins σ Q) EE s := by
  have hl : us.length = ps.length := by rw [← r.length]; exact F.len _ _ _ _ h
  have e0 := I.env0
  have b := hb s us I.kIn (by rw [List.append_nil]; exact hl)
  rw [List.append_nil] at b
  refine wpAny_call (codeAny_mono (F.run A X.stack s H ⟨us, []⟩ us vs Q E hr ⟨hA, e0.mod, e0.bs, e0.bsz, e0.funs, e0.frf, e0.hok, e0.bare⟩ b r h) fun r s' hq => ?_)
  cases r with
  | error e => exact hx e s' hq
  | ok fl =>
    cases fl with
    | ret u => exact I.after hq
    | next => exact False.elim hq
    | brk => exact False.elim hq
    | cont => exact False.elim hq
theorem cx00 {P : Program} {w : World} {outer : List Env} {H : Hp} {s s' : Shared} {e : Value} (h : CXE P w outer H s E0 e s') : False := by
  obtain ⟨_, _, _, _, _, _, _, _, _, _, _, _, _, _, _, _, _, _, _, _, q⟩ := h
  exact q
theorem pe_cmethN {X : Cx} {k : Nat} {f C : Addr} {fd : FuncData} {ps : List Str} {sp : Sp} {x m : Str} {p pos apos : Pos} {e : Expr} {es : List Expr} {t : TA} {pl : Sem Bool}
    (hg : Gl X x) (hm : X.mg x = some (.ref C)) (c : CMeth X.K C m f) (F : FnOkN X.prog X.w X.K X.mg X.base (CXE X.prog X.w) k f fd ps sp) (hr : RoomN k X.A) (hb : Binds X.K fd ps []) (ha : PA X (e :: es) t)
    (hdb : (x == ("__debug__" : Str)) = false := by decide) (hst : starEach (e :: es) X.env = (false, eval e X.env) :: starEach es X.env := by rfl) (hpl : (backTo pos (starEach es X.env)).any (·.1) = false := by rfl)
    (ht : eval (.Call (.Attribute (.Name x p) m apos) (e :: es) [] pos) X.env = (do
      let ov ← eval (.Name x p) X.env
      standAt apos.atName
      let (f, first) ← holding [ov] (getMethod ov m pl)
      callWith pos f first (backTo pos (starEach (e :: es) X.env)) (backToKw pos (keywordEach [] X.env))) := by rfl) :
    PE X (.Call (.Attribute (.Name x p) m apos) (e :: es) [] pos) (tCall sp [] E0 t) := by
  intro pins s σ H Q I h
  refine PySem.W.methodCall_KW (pl := pl) (ld_glob I hg hm ?_ hdb) ht
  refine PySem.W.method_cls I.kIn c.ga (PySem.W.cls_value I.kIn c.rd c.at_ rfl ?_)
  refine PySem.W.callWith_K (first := []) (h₀ := X.base) I.ok.mod.kin c.kp (thn (ha pos pins _ σ H _ (I.tok _) h) fun us s2 ⟨vs, H2, I2, r, q2⟩ => ⟨I2.kIn, ?_⟩) hst hpl
  have q2 : sp (vs ++ []) H2 Q E0 := q2
  rw [List.append_nil] at q2
  exact run_fnN F hr I2.ok.frames hb (fun e s' z => (cx00 z).elim) I2 r q2
section
variable {X : Cx} {E : XK} {x : Str} {C fI : Addr} {np cpos pos : Pos}
theorem make_exc {k : Nat} {fd : FuncData} {ps : List Str} {sp : Sp} {A : Around} {Q : Value → Shared → Prop} {EE : Value → Shared → Prop} {pins : List (Addr × Obj)} {s : Shared} {σ : St} {H : Hp} {vs : List V} {us : List Value} {R : Addr → Array Value → Hp → Prop}
    (xc : XCls X.K C) (hi : PySem.W.findIn X.K (.ref C) "__init__" = some (some (.ref fI))) (hfn : PySem.W.typeIn X.K (.ref fI) = some (.type "function"))
    (F : FnOkN X.prog X.w X.K X.mg X.base (CXE X.prog X.w) k fI fd ps sp) (hr : RoomN (k + 1) A) (hfr : A.frames = some X.stack) (hb : Binds X.K fd ps []) (I : Inv X pins σ H s) (r : Vals vs us) (hl : us.length ≤ sizeLine)
    (h : ∀ (e : Addr) (ws : Array Value), H e = none → sp (.ref e :: vs) (upd H e (XO e C none ws)) (fun v H2 => v = .non ∧ R e ws H2) E0)
    (hq : ∀ (e : Addr) (ws : Array Value) (s' : Shared) (H' : Hp), s.heap.get? e = none → 5 < ws.size → ws[1]? = some .none → ws[2]? = some .none → Inv X pins σ H' s' → R e ws H' → Q (.ref e) s') :
    wpAny (model X.prog X.w) A (call (.ref C) us) Q EE s := by
  obtain ⟨bm, hK, ht, _⟩ := xc_of I.kIn xc.xc
  obtain ⟨hp, g, d, tk, os⟩ := s
  refine call_exc I.kIn hK ht hi hfn hl ?_
  generalize hws : (#[.ref hp.objs.size, .none, .none, .none, .bool false, .none] : Array Value) = ws
  have I1 : Inv X pins σ H ⟨hp.push { cls := .type "tuple", data := .seq us.toArray }, g, d, tk, os⟩ := I.kept (t' := tk) fun b o e => Heap.get?_push_of_some _ e
  have I2 : Inv X pins σ (upd H (hp.objs.size + 1) (XO (hp.objs.size + 1) C none ws)) ⟨(hp.push { cls := .type "tuple", data := .seq us.toArray }).push { cls := .ref C, data := .fields ws }, g, d, tk, os⟩ := by
    refine I1.laid (a := hp.objs.size + 1) (t' := tk) (fun b o e => Heap.get?_push_of_some _ e) (by show (hp.push _).objs.size ≤ _; rw [Heap.size_push]; exact Nat.le_refl _) (xo_ok ⟨{ cls := .ref C, data := .fields ws }, ?_, rfl, rfl, rfl⟩)
    exact Heap.get?_push_at (by rw [Heap.size_push]) rfl
  have ne : H (hp.objs.size + 1) = none := I.hok.fresh (Nat.le_succ _)
  refine thn (run_fnN (X := X) F (hr.make C us []) (by first | exact hfr | (simpa [Around.under, Code.envs, Code.isFrame, pushEnvs] using hfr)) hb (fun e s' z => (cx00 z).elim) I2 (vs := .ref (hp.objs.size + 1) :: vs) (.cons rfl r) (h _ ws ne)) fun u s' ⟨v, H', I', rv, ev, q⟩ => ?_
  subst ev
  exact ⟨rv, hq _ ws s' H' (Heap.get?_none_of_le (Nat.le_succ _)) (by rw [← hws]; simp) (by rw [← hws]; rfl) (by rw [← hws]; rfl) I' q⟩
end
end L2
namespace L2
open PySem PySem.Spec PyProof.Rows
section
variable {X : Cx} {E : XK} {x : Str} {C fI : Addr} {np cpos pos : Pos} {k : Nat} {fd : FuncData} {ps : List Str} {sp : Sp}
structure XMk (K : PySem.W.Frag) (C fI : Addr) : Prop where
  cl : XCls K C
  init : PySem.W.findIn K (.ref C) "__init__" = some (some (.ref fI))
  fn : PySem.W.typeIn K (.ref fI) = some (.type "function")
  kp : PySem.W.keepIn K (.ref C) = true
theorem raised_mk {pins : List (Addr × Obj)} {s : Shared} {σ : St} {H : Hp} {vs : List V} {us : List Value} (hF : Flies X E) (B : Body X) (M : XMk X.K C fI) (F : FnOkN X.prog X.w X.K X.mg X.base (CXE X.prog X.w) k fI fd ps sp) (hr : RoomN (k + 1) X.A) (hb : Binds X.K fd ps []) (I : Inv X pins σ H s) (r : Vals vs us) (hl : vs.length ≤ 100)
    (h : ∀ (e : Addr) (ws : Array Value), H e = none → sp (.ref e :: vs) (upd H e (XO e C none ws)) (fun v H2 => v = .non ∧ ∃ d, H2 e = some (XO e C (some d) ws) ∧ E (.ref C) (some d) (del H2 e)) E0) :
    wpAny (model X.prog X.w) X.A (call (.ref C) us) (fun v s1 => ∃ e oe vs C bm, v = .ref e ∧ ExcCls s1.heap C bm ∧ tailExc bm = true ∧ s1.heap.get? e = some oe ∧ oe.cls = .ref C ∧ oe.data = .fields vs ∧ vs[1]? = some .none ∧ X.xe (.ref e) s1) X.xe s := by
  have hz : us.length ≤ sizeLine := by rw [← r.length, sizeLine_eq]; omega
  refine make_exc (R := fun e ws H2 => ∃ d, H2 e = some (XO e C (some d) ws) ∧ E (.ref C) (some d) (del H2 e)) M.cl M.init M.fn F hr I.ok.frames hb I r hz h fun e ws s' H' ne z1 w1 w2 I' q => ?_
  obtain ⟨d, hd, q⟩ := q
  obtain ⟨bm, hK, ht, _⟩ := xc_of I'.kIn M.cl.xc
  obtain ⟨⟨oe, o1, o2, o3, o4⟩, _, _⟩ := (show ObjOk X.prog X.w H' s'.heap e (XO e C (some d) ws) from I'.hok e _ hd)
  refine ⟨e, oe, ws, C, bm, rfl, hK, ht, o1, o2, o4, w1, ?_⟩
  exact hF pins σ _ s' e _ (some d) (fly_new B I ne (I'.untrack hd) del_same ⟨oe, o1, o2, o3, o4⟩ ⟨z1, fun z => by cases z⟩ w1) q
end
end L2
namespace L2
open PySem PySem.Spec
theorem xmatch {M : Model} {A : Around} {E : Value → Shared → Prop} {s : Shared} {e C R : Addr} {oe : Obj} {bm bmR : List Value} {Q : Bool → Shared → Prop} (hC : ExcCls s.heap C bm) (hR : ExcCls s.heap R bmR) (tR : tailExc bmR = true) (he : s.heap.get? e = some oe) (hcl : oe.cls = .ref C) (hq : Q ((Value.ref C :: bm).contains (.ref R)) s) :
    wpAny M A (excMatches (.ref e) (.ref R)) Q E s := by
  obtain ⟨nm, q, N, bs, sn, sub, ab, col, dd, k0, k1, k2, k3, k5, kC⟩ := hC
  obtain ⟨nm', q', N', bs', sn', sub', ab', col', dd', k0', k1', k2', k3', k5', kR⟩ := hR
  obtain ⟨h, g, d, t, os⟩ := s
  have cB : (Value.ref R :: bmR).contains (.type "BaseException") = true := by rw [List.contains_cons, tail_has tR]; rfl
  have f := tc_notTuple
  unfold excMatches
  repeat (first
    | (with_reducible refine wpAny_loadPart_at he ?_; rw [hcl])
    | with_reducible refine wpAny_loadPart_at kR ?_
    | (with_reducible refine wpAny_isSubtype_exc kR ?_; rw [cB])
    | with_reducible refine wpAny_isSubtype_exc kC ?_
    | wp_step)
  cases hb : (Value.ref C :: bm).contains (.ref R) with
  | true =>
    rw [hb] at hq
    wp_walk
    exact hq
  | false =>
    rw [hb] at hq
    wp_walk
    exact hq
end L2
namespace L2
open PySem PySem.Spec PyProof.Rows
noncomputable abbrev Cx.marked (X : Cx) (v : Value) : Cx := { X with A := X.A.mark (some v), calm := false }
theorem Inv.marked {X : Cx} {pins : List (Addr × Obj)} {σ : St} {H : Hp} {s : Shared} (I : Inv X pins σ H s) (v : Value) : Inv (X.marked v) pins σ H s :=
  ⟨⟨I.ok.mod, I.ok.kind, I.ok.glob, I.ok.blt, I.ok.above, I.ok.inj, I.ok.has, I.ok.cab, (fun z => by cases z), I.ok.frames, I.ok.stk, I.ok.exf, I.ok.bs, I.ok.bsz, I.ok.noex, I.ok.exfs, I.ok.funs, I.ok.frf⟩, I.os, I.bare, I.base, I.loc, I.cell, I.free, I.freeC, I.pin, I.hok, I.len⟩
theorem Inv.unmarked {X : Cx} {pins : List (Addr × Obj)} {σ σ0 : St} {H H0 : Hp} {s s0 : Shared} {v : Value} (I0 : Inv X pins σ0 H0 s0) (I : Inv (X.marked v) pins σ H s) : Inv X pins σ H s :=
  ⟨I0.ok, I.os, I.bare, I.base, I.loc, I.cell, I.free, I.freeC, I.pin, I.hok, I.len⟩
theorem Inv.forget {X : Cx} {pins : List (Addr × Obj)} {σ : St} {H : Hp} {s : Shared} {h' : Heap} {m' : Str → Option Value} {t' : Nat} (I : Inv X pins σ H s) (hn : h'.Ns X.env.locals m') (sb : Heap.SameBut X.env.locals s.heap h') :
    Inv X pins (σ.map fun _ => none) H { s with heap := h', toks := t' } := by
  have neL : ∀ b o, X.s_0.heap.get? b = some o → b ≠ X.env.locals := fun b o e => Nat.ne_of_lt (Nat.lt_of_lt_of_le (Heap.lt_size e) I.ok.above)
  refine ⟨I.ok, I.os, I.bare, ⟨fun b o e n hb hx => (sb.2 b (neL b o e)).trans (I.base.keep b o e n hb hx), fun b o e n hb hx => ?_, I.base.free, fun b o e hx => ?_, I.base.tups, I.base.frzs, I.base.tbls⟩, ⟨m', hn, fun i x v e1 e2 => ?_⟩, fun y c e => ?_, I.free, I.freeC, fun p hp => ?_, fun b u e => ?_, by simpa using I.len⟩
  · obtain ⟨sl, q⟩ := I.base.slot b o e n hb hx
    exact ⟨sl, (sb.2 b (neL b o e)).trans q⟩
  · obtain ⟨o', q⟩ := I.base.there b o e hx
    exact ⟨o', (sb.2 b (neL b o e)).trans q⟩
  · rw [List.getElem?_map] at e2
    cases q : σ[i]? with
    | none => rw [q] at e2; cases e2
    | some z => rw [q] at e2; cases e2
  · obtain ⟨v, z⟩ := I.cell y c e
    exact ⟨v, z.sameBut sb (I.cne y c e)⟩
  · obtain ⟨p1, p2, p3, p4⟩ := I.pin p hp
    exact ⟨(sb.2 p.1 p3).trans p1, p2, p3, p4⟩
  · have nl : ∀ c v, H c = some v → c ≠ X.env.locals := fun c v q z => by rw [z, I.free] at q; cases q
    refine (I.hok b u e).stay (fun c v hc q => (sb.2 c ?_).trans q) (fun _ q => q) fun _ _ q => q
    rcases hc with z | z
    · rw [z]; exact nl b u e
    · exact nl c _ z
noncomputable def isaIn (K : PySem.W.Frag) (C R : Addr) : Bool := match PySem.W.clsIn K C with
  | some cd => cd.mro.contains (.ref R)
  | none => false
theorem test_ok {X : Cx} {pins : List (Addr × Obj)} {σ : St} {H : Hp} {s : Shared} {ea T C R : Addr} {fl : Value} {od : Option Addr} {x : Str} {np hpos : Pos} {RR : Result → Shared → Prop} (N : Noted X pins σ H s ea (.ref C) od T fl) (hg : Gl X x) (hm : X.mg x = some (.ref R)) (hC : xcIn X.K C = true) (hR : xcIn X.K R = true) (hi : isaIn X.K C R = true)
    (h : RR (.ok .brk) s) (hdb : (x == ("__debug__" : Str)) = false := by decide) :
    codeAny (model X.prog X.w) (X.A.mark (some (.ref ea))) (.handlers (.ref ea) [.ExceptHandler (some (.Name x np)) none [] hpos] X.env) RR s := by
  obtain ⟨bm, k1, t1, cd, c1, _, c3⟩ := xc_of N.inv.kIn hC
  obtain ⟨bmR, k2, t2, _⟩ := xc_of N.inv.kIn hR
  obtain ⟨vs, ⟨oe, o1, o2, _⟩, _⟩ := N.ex
  refine codeAny_handlers_test (ld_glob (X := X.marked (.ref ea)) (N.inv.marked _) hg hm ?_ hdb)
  refine xmatch k1 k2 t2 o1 o2 ?_
  have z : (Value.ref C :: bm).contains (.ref R) = true := by
    unfold isaIn at hi
    rw [c1] at hi
    dsimp only at hi
    rw [c3] at hi
    exact hi
  rw [z]
  exact h
end L2
namespace L2
open PySem PySem.Spec PyProof.Rows
section
variable {prog : Program} {w : World} {A : Around} {E : Value → Shared → Prop} {h : Heap} {g : Array GenState} {d : Drawn} {t : Nat} {os : OsState} {C a : Addr} {o : Obj} {bm : List Value} {M : Model} {K : PySem.W.Frag} {od : Option Obj} {name : Str} {expr : Bool}
theorem chk_ga {nameV : Value} {Q : Unit → Shared → Prop} (hK : ExcCls h C bm) (ht : tailExc bm = true) (hx : h.get? a = some o) (hc : o.cls = .ref C) (hq : Q () ⟨h, g, d, t, os⟩) :
    wpAny M A (checkBuiltinCall "BaseException.__getattribute__" ⟨[.ref a, nameV], []⟩) Q E ⟨h, g, d, t, os⟩ := by
  obtain ⟨nm, q, N, bs, sn, sub, ab, col, dd, k0, k1, k2, k3, k5, kC⟩ := hK
  have hk : builtinKind "BaseException.__getattribute__" = some .slot := by decide +kernel
  have hsplit : splitId "BaseException.__getattribute__" = some ("BaseException", "__getattribute__") := by decide +kernel
  have hcB : (Value.ref C :: bm).contains (.type "BaseException") = true := by rw [List.contains_cons, tail_has ht]; rfl
  have ha := F.args_bexc_ga (.ref a) nameV
  simp only [checkBuiltinCall, hk, hsplit]
  refine wpAny_bind ?_
  · unfold isInstance
    repeat (first | (with_reducible refine wpAny_loadPart_at hx ?_; rw [hc]) | (with_reducible refine wpAny_isSubtype_exc kC ?_; rw [hcB]) | wp_step)
    exact hq
theorem ga_bind (self : Value) : bindSpecial (.builtin "BaseException.__getattribute__") self = pure (.builtin "BaseException.__getattribute__", [self]) := by
  have hk : builtinKind "BaseException.__getattribute__" = some .slot := by decide +kernel
  have hop : withoutEnding? "BaseException.__getattribute__" "#opaque" = none := by decide +kernel
  have hdat : withoutEnding? "BaseException.__getattribute__" "#data" = none := by decide +kernel
  simp only [bindSpecial, typeOf, builtinType, hop, hdat, hk]
  rfl
theorem ga_plain : plainId "BaseException.__getattribute__" = true := by decide +kernel
theorem get_exc {v : Value} {Q : Value → Shared → Prop} (X : K.In h) (I : PySem.W.InstAt h a o C od) (hK : ExcCls h C bm) (ht : tailExc bm = true)
    (hga : PySem.W.findIn K (.ref C) "__getattribute__" = some (some (.builtin "BaseException.__getattribute__"))) (hgn : PySem.W.findIn K (.ref C) "__getattr__" = some none)
    (hf : PySem.W.findObj K C od name = some (.value v)) (hh : PySem.W.handedIn v = true) (hq : Q v ⟨h, g, d, t + 1, os⟩) : wpAny (model prog w) A (getAttr (.ref a) name expr) Q E ⟨h, g, d, t, os⟩ := by
  have L0 := I.type (M := model prog w)
  have L1 := PySem.W.looks_findIn (M := model prog w) X hga
  have L2 := PySem.W.looks_findIn (M := model prog w) X hgn
  have L3 := PySem.W.looks_find (M := model prog w) X I hf
  have hx2 : (Value.builtin "BaseException.__getattribute__" == Value.builtin "object.__getattribute__") = false := by decide +kernel
  unfold getAttr getAttrBy
  refine wpAny_bind (wpAny_mkText (wpAny_holding (wpAny_bind (L0.at (wpAny_bind (L1.at ?_))))))
  dsimp only
  rw [if_neg (by rw [hx2]; simp)]
  unfold getAttrByItsOwn
  unfold hookBefore
  rw [if_pos (show onTheHeap (.ref C) = true from rfl)]
  refine wpAny_bind (L2.at (wpAny_bind (wpAny_attempt (wpAny_holding ?_))))
  unfold callGetattribute
  rw [if_neg (show ¬ (expr && onTheHeap (Value.builtin "BaseException.__getattribute__")) = true by cases expr <;> decide)]
  unfold boundAndCalled
  rw [ga_bind]
  refine wpAny_bind (wpAny_pure ?_)
  refine wpAny_call (codeAny_call_builtin ga_plain F.entry_bexc_ga (chk_ga hK ht I.at_ I.cls ?_))
  unfold Builtin.«object.__getattribute__»
  refine wpAny_bind (wpAny_pure ?_)
  dsimp only
  refine wpAny_bind (wpAny_pure ?_)
  refine wpAny_bind (L0.at (wpAny_bind (L3.at ?_)))
  dsimp only
  refine wpAny_pure ?_
  show wpAny _ _ (handedOut v) _ _ _
  rw [PySem.W.handedOut_of hh]
  exact wpAny_pure hq
end
section
variable {X : Cx} {k : Nat} {f : Addr} {fd : FuncData} {ps : List Str} {sp : Sp} {i : Nat} {y x : Str} {py p cpos apos : Pos} {e : Expr} {es : List Expr} {t : TA} {E1 : XK}
theorem xget {pins : List (Addr × Obj)} {s : Shared} {σ : St} {H : Hp} {ea C d : Addr} {vs : Array Value} {fs : List (Str × V)} {v : V} {at_ : Str} {A : Around} {EE : Value → Shared → Prop} {Q : Value → Shared → Prop} {b : Bool} (I : Inv X pins σ H s) (xe : ExcAt s.heap ea (.ref C) (some d) vs) (hd : H d = some (.xd fs)) (hl : fs.lookup at_ = some v)
    (hxc : xcIn X.K C = true) (hga : PySem.W.findIn X.K (.ref C) "__getattribute__" = some (some (.builtin "BaseException.__getattribute__"))) (hgn : PySem.W.findIn X.K (.ref C) "__getattr__" = some none) (hh : PySem.W.hasDictIn X.K C = true) (hn : NoAttr X.K C at_)
    (h : ∀ u s', Inv X pins σ H s' → RelV v u → Q u s') : wpAny (model X.prog X.w) A (getAttr (.ref ea) at_ b) Q EE s := by
  obtain ⟨oe, o1, o2, o3, o4⟩ := xe
  obtain ⟨mA, ns, r⟩ := (show ObjOk X.prog X.w H s.heap d (.xd fs) from I.hok d _ hd)
  obtain ⟨od, od1, look⟩ := lookIn_ns ns
  obtain ⟨u, hu, ru⟩ := RelO.some_of (v := v) (o := mA at_) (by rw [← hl]; exact r at_)
  have J : PySem.W.InstAt s.heap ea oe C (some od) := ⟨o1, o2, (by unfold PySem.W.notCls; rw [o4]), (by rw [o3]; exact od1)⟩
  obtain ⟨bm, hK, ht, _⟩ := xc_of I.kIn hxc
  have kIn := I.kIn
  have I' := h u _ (I.tok (s.toks + 1)) ru
  obtain ⟨hp, g, d', t, os⟩ := s
  exact get_exc kIn J hK ht hga hgn (PySem.W.findObj_own hh hn rfl (by rw [look, hu])) (handed_of ru) I'
end
end L2
namespace L2
open PySem PySem.Spec PyProof.Rows
structure XGet (K : PySem.W.Frag) (C R : Addr) (at_ : Str) : Prop where
  xc : xcIn K C = true
  isa : isaIn K C R = true
  ga : PySem.W.findIn K (.ref C) "__getattribute__" = some (some (.builtin "BaseException.__getattribute__"))
  gn : PySem.W.findIn K (.ref C) "__getattr__" = some none
  hd : PySem.W.hasDictIn K C = true
  na : NoAttr K C at_
section
variable {X : Cx} {k : Nat} {f : Addr} {fd : FuncData} {ps : List Str} {sp : Sp} {i j : Nat} {y x n rn at_ : Str} {py p cpos apos np ap lp rpos hpos rp pos : Pos} {e : Expr} {es : List Expr} {t : TA} {R : Addr}
theorem suite_ret {pins : List (Addr × Obj)} {s : Shared} {σ : St} {H : Hp} {ea C d : Addr} {vs : Array Value} {fs : List (Str × V)} {v : V} {EE : Value → Shared → Prop} {QQ : Flow → Shared → Prop} (I : Inv X pins σ H s) (hj : X.N[j]? = some n) (hv : Vis X.env.scope n) (hσ : σ[j]? = some (some (.ref ea))) (mi : Mine X H ea) (xe : ExcAt s.heap ea (.ref C) (some d) vs) (hd : H d = some (.xd fs)) (hl : fs.lookup at_ = some v) (xg : XGet X.K C R at_)
    (hb : attributeBase (.Name n np) at_ X.env (eval (.Name n np) X.env) = eval (.Name n np) X.env)
    (h : ∀ l s', H l = none → Inv X pins σ (upd H l (.lst [v])) s' → QQ (.ret (.ref l)) s')
    (hd1 : (n == ("__debug__" : Str)) = false := by decide) (hd2 : (n == ("__classdict__" : Str)) = false := by decide) :
    wpAny (model X.prog X.w) (X.A.mark (some (.ref ea))) (execs [.Return (some (.List [.Attribute (.Name n np) at_ ap] lp)) rpos] X.env) QQ EE s := by
  refine wpAny_execs_cons (wpAny_Return_some (wpAny_List_spliced ?_))
  show wpAny _ _ (spliced ((false, eval (.Attribute (.Name n np) at_ ap) X.env) :: backTo lp (starEach [] X.env))) _ _ s
  obtain ⟨oe, o1, o2, o3, o4⟩ := xe
  have Ip : Inv X (pins ++ [(ea, oe)]) σ H s := I.pins_of fun q hq => (List.mem_append.mp hq).elim (fun z => I.pin q (List.mem_append_right _ z)) fun z => by
    obtain rfl : q = (ea, oe) := by simpa using z
    exact ⟨o1, mi.free, mi.loc, mi.nofs I, fun v z => by rw [o4] at z; cases z⟩
  refine Calls.spliced_cons (attr_of hb (thn (pe_var (X := (X.marked (.ref ea)).wish EE) (i := j) hj hv hd1 hd2 (pins ++ [(ea, oe)]) s σ H (fun v' H' => v' = .ref ea ∧ H' = H) ((Ip.marked _).wish _) ⟨.ref ea, hσ, rfl, rfl⟩) fun u s1 ⟨v', H', I1, rv, ev, eH⟩ => ?_))
  subst ev eH
  obtain rfl : u = Value.ref ea := rv
  have I2 : Inv X (pins ++ [(ea, oe)]) σ H' s1 := Ip.unmarked (I1.unwish)
  have o1' : s1.heap.get? ea = some oe := (I2.pin (ea, oe) (by simp)).1
  refine xget (I2.unpinned) ⟨oe, o1', o2, o3, o4⟩ hd hl xg.xc xg.ga xg.gn xg.hd xg.na fun u s2 I3 ru => ?_
  refine Calls.spliced_nil ⟨by show 1 ≤ sizeLine; decide, ?_⟩
  have fr : H' s2.heap.objs.size = none := I3.hok.fresh (Nat.le_refl _)
  refine h _ _ fr (I3.laid (t' := s2.toks) (fun b o q => Heap.get?_push_of_some _ q) (Nat.le_refl _) ?_)
  exact ⟨by show 1 ≤ sizeLine; decide, [u], 0, .cons ru .nil, Heap.get?_push_size _ rfl⟩
end
end L2
namespace L2
open PySem PySem.Spec PyProof.Rows
section
variable {X : Cx} {k k2 : Nat} {f fI : Addr} {fd fd2 : FuncData} {ps ps2 : List Str} {sp sp2 : Sp} {i j : Nat} {y x rn x2 : Str} {py p cpos apos hpos rp pos np2 cpos2 kpos rpos : Pos} {kj : _} {e e2 : Expr} {es es2 : List Expr} {t t2 : TA} {R C2 : Addr} {E : XK}
end
end L2
namespace L2
open PySem PySem.Spec PyProof.Rows
section
variable {X : Cx}
end
end L2
namespace L2
open PySem PySem.Spec PyProof.Rows
inductive Ar where
  | i (n : Int)
  | l (ns : List Int)
noncomputable def Ar.wd : Ar → PySem.W.WData
  | .i n => .int n
  | .l ns => .list (ns.map .int)
noncomputable def Ar.ok : Ar → Prop
  | .i _ => True
  | .l ns => ns.length ≤ sizeLine
inductive ArV (K : PySem.W.Frag) (H : Hp) : List V → List Ar → Prop
  | nil : ArV K H [] []
  | int {n : Int} {vs : List V} {as : List Ar} : ArV K H vs as → ArV K H (.int n :: vs) (.i n :: as)
  | lst {a : Addr} {ns : List Int} {vs : List V} {as : List Ar} : SqL K H a (ns.map V.int) → ArV K H vs as → ArV K H (.ref a :: vs) (.l ns :: as)
theorem ints_one : ∀ {vs : List Value} {ns ms : List Int}, IntsAre vs ns → IntsAre vs ms → ns = ms
  | _, _, _, .nil, .nil => rfl
  | _, _, _, .cons n t h, .cons _ _ h' => by rw [ints_one h h']
open Classical in
noncomputable def argH (K : PySem.W.Frag) (h : Heap) (L : List Addr) : Hp := fun b =>
  if x : K.lookup b = none ∧ b ∈ L ∧ ∃ (vs : List Value) (ns : List Int), h.get? b = some { cls := .type "list", data := .seq vs.toArray } ∧ IntsAre vs ns ∧ ns.length ≤ sizeLine then
    some (.frz { cls := .type "list", data := .seq (x.2.2.choose).toArray } (.lst ((x.2.2.choose_spec.choose).map V.int)))
  else none
theorem argH_only {K : PySem.W.Frag} {h : Heap} {L : List Addr} : Only (argH K h L) := fun b => by
  unfold argH
  split
  · exact .inr ⟨_, _, rfl⟩
  · exact .inl rfl
theorem argH_some {K : PySem.W.Frag} {h : Heap} {L : List Addr} {b : Addr} {u : HO} (e : argH K h L b = some u) : ∃ vs ns, K.lookup b = none ∧ b ∈ L ∧ h.get? b = some { cls := .type "list", data := .seq vs.toArray } ∧ IntsAre vs ns ∧ ns.length ≤ sizeLine ∧ u = .frz { cls := .type "list", data := .seq vs.toArray } (.lst (ns.map V.int)) := by
  unfold argH at e
  split at e
  · rename_i x
    cases e
    have s := x.2.2.choose_spec.choose_spec
    exact ⟨_, _, x.1, x.2.1, s.1, s.2.1, s.2.2, rfl⟩
  · cases e
theorem argH_at {K : PySem.W.Frag} {h : Heap} {L : List Addr} {b : Addr} {vs : List Value} {ns : List Int} (hk : K.lookup b = none) (hb : b ∈ L) (ho : h.get? b = some { cls := .type "list", data := .seq vs.toArray }) (hi : IntsAre vs ns) (hl : ns.length ≤ sizeLine) :
    argH K h L b = some (.frz { cls := .type "list", data := .seq vs.toArray } (.lst (ns.map V.int))) := by
  have x : K.lookup b = none ∧ b ∈ L ∧ ∃ (vs : List Value) (ns : List Int), h.get? b = some { cls := .type "list", data := .seq vs.toArray } ∧ IntsAre vs ns ∧ ns.length ≤ sizeLine := ⟨hk, hb, vs, ns, ho, hi, hl⟩
  have e : argH K h L b = some (.frz { cls := .type "list", data := .seq (x.2.2.choose).toArray } (.lst ((x.2.2.choose_spec.choose).map V.int))) := by
    unfold argH
    rw [dif_pos x]
  obtain ⟨vs', ns', _, _, o', i', _, q⟩ := argH_some e
  have ev : vs' = vs := by
    rw [ho] at o'
    have z := Option.some.inj o'
    have z2 : Data.seq vs.toArray 0 = Data.seq vs'.toArray 0 := congrArg Obj.data z
    injection z2 with z3
    have := congrArg Array.toList z3
    simpa using this.symm
  subst ev
  rw [e, q, ints_one i' hi]
theorem argH_ok {P : Program} {w : World} {K : PySem.W.Frag} {h : Heap} {L : List Addr} : HOk P w (argH K h L) h := fun b u e => by
  obtain ⟨vs, ns, _, _, ho, hi, hl, rfl⟩ := argH_some e
  exact ⟨ho, by rw [List.length_map]; exact hl, vs, _, vals_ints hi, ho⟩
theorem arV_of {P : Params} {K : PySem.W.Frag} {h : Heap} (KX : K.In h) : ∀ {vals : List Value} {ars : List Ar} (_ : PySem.W.WellAll P h vals (ars.map Ar.wd)) (_ : ∀ a ∈ ars, a.ok) (L : List Addr) (_ : ∀ b, Value.ref b ∈ vals → b ∈ L),
    ∃ vs, ArV K (argH K h L) vs ars ∧ Vals vs vals
  | _, [], hw, _, L, _ => by
    cases hw
    exact ⟨[], .nil, .nil⟩
  | _, .i n :: r, hw, hok, L, hL => by
    cases hw with
    | cons w1 w2 =>
      cases w1 with
      | int i t =>
        obtain ⟨vs, a, b⟩ := arV_of KX w2 (fun a ha => hok a (List.mem_cons_of_mem _ ha)) L fun b hb => hL b (List.mem_cons_of_mem _ hb)
        exact ⟨_, .int a, .cons ⟨t, rfl⟩ b⟩
  | _, .l ns :: r, hw, hok, L, hL => by
    cases hw with
    | cons w1 w2 =>
      cases w1 with
      | @list a us xs ho hall =>
        obtain ⟨vs, x, y⟩ := arV_of KX w2 (fun a ha => hok a (List.mem_cons_of_mem _ ha)) L fun b hb => hL b (List.mem_cons_of_mem _ hb)
        have hi : IntsAre us ns := Att.ints_of_wellAll ns _ hall
        have hl : ns.length ≤ sizeLine := hok _ List.mem_cons_self
        refine ⟨.ref a :: vs, .lst ?_ x, .cons rfl y⟩
        cases hk : K.lookup a with
        | none => exact .inl (.inr ⟨_, argH_at hk (hL a List.mem_cons_self) ho hi hl⟩)
        | some o =>
          have e := KX a o hk
          rw [ho] at e
          cases e
          exact .inr ⟨_, us.toArray, _, hk, rfl, rfl, rfl, (by rw [List.size_toArray, hi.length]; exact hl), by simpa using vals_ints hi⟩
theorem ints_of_vals : ∀ {ns : List Int} {us : List Value}, Vals (ns.map V.int) us → IntsAre us ns
  | [], _, r => by cases r; exact .nil
  | n :: ns, _, r => by
    cases r with
    | cons a b =>
      obtain ⟨t, rfl⟩ := a
      exact .cons n t (ints_of_vals b)
theorem reads_ints {R : PySem.W.WRecords} {cl : Str → Option Addr} {h : Heap} : ∀ {us : List Value} {ns : List Int}, IntsAre us ns → PySem.W.ReadsAllW R cl h us (ns.map PySem.W.WData.int) []
  | _, _, .nil => .nil
  | _, _, .cons n t r => .cons (.int n t) (reads_ints r)
theorem spec_call {P : Program} {w : World} {K : PySem.W.Frag} {mg mb : Str → Option Value} {k : Nat} {fa : Addr} {fd : FuncData} {ps : List Str} {sp : Sp} {s₁ : Shared} {vals : List Value} {ars : List Ar} {ans : List Int}
    (KX : K.In s₁.heap) (hns : s₁.heap.Ns mainGlobals mg) (hb : s₁.heap.Ns builtinsNs mb) (hbb : ∀ x : Str, x ≠ "__name__" → mb x = bootBuiltins x) (hlim : s₁.heap.NoLimit) (hg : s₁.gens = #[])
    (hw : PySem.W.WellAll w.params s₁.heap vals (ars.map Ar.wd)) (hok : ∀ a ∈ ars, a.ok) (hr : Room k callerA)
    (F : ∀ base : Heap, K.In base → base.Ns mainGlobals mg → FnOk P w K mg base (CXE P w) k fa fd ps sp) (hbind : ∀ (s : Shared) (us : List Value), us.length = ps.length → BindsTo s fd ⟨us, []⟩ (ps.zip us))
    (hsp : ∀ (H : Hp) (vs : List V), Only H → ArV K H vs ars → sp vs H (fun v H' => ∃ l, v = .ref l ∧ H' l = some (.lst (ans.map V.int))) E0) :
    codeAny (model P w) callerA (.call (.ref fa) ⟨vals, []⟩) (fun r s' => (∃ l n its, r = .ok (.ret (.ref l)) ∧ s'.heap.get? l = some { cls := .type "list", data := .seq its.toArray n } ∧ IntsAre its ans) ∧ OldK s₁.heap s'.heap ∧ s'.os = s₁.os ∧ AllBare s'.gens) s₁ := by
  obtain ⟨L, hL⟩ : ∃ L : List Addr, ∀ b, Value.ref b ∈ vals → b ∈ L := ⟨vals.filterMap fun v => match v with | .ref b => some b | _ => none, fun b hb => List.mem_filterMap.mpr ⟨_, hb, rfl⟩⟩
  obtain ⟨vs, hA, hV⟩ := arV_of KX hw hok L hL
  have hO : Only (argH K s₁.heap L) := argH_only
  have hok0 : HOk P w (argH K s₁.heap L) s₁.heap := argH_ok
  have hsm : ∀ b u, argH K s₁.heap L b = some u → K.lookup b = none ∧ ∃ vs : List Value, s₁.heap.get? b = some { cls := .type "list", data := .seq vs.toArray } := fun b u e => by
    obtain ⟨vs, _, h1, _, h2, _⟩ := argH_some e
    exact ⟨h1, vs, h2⟩
  generalize argH K s₁.heap L = H at hA hO hok0 hsm
  have base_of : ∀ {b : Addr} {o : Obj}, s₁.heap.get? b = some o → H b = none → (hidT s₁.heap H).get? b = some o := fun e n => hidT_get e n
  have noA : ∀ {b : Addr} {o : Obj} {es : Array DictEntry} {ep : Nat}, s₁.heap.get? b = some o → o.data = .dict es ep → H b = none := fun {b o es ep} e d => by
    cases q : H b with
    | none => rfl
    | some u =>
      obtain ⟨_, us, e2⟩ := hsm b u q
      rw [e2] at e
      cases e
      have d' : Data.seq us.toArray _ = Data.dict es ep := d
      cases d'
  have nsK : ∀ {b : Addr} {m : Str → Option Value}, s₁.heap.Ns b m → (hidT s₁.heap H).Ns b m := fun {b m} ⟨o, es, ep, e, d, r⟩ => ⟨o, es, ep, base_of e (noA e d), d, r⟩
  have hKb : K.In (hidT s₁.heap H) := fun b o e => base_of (KX b o e) (by
    cases q : H b with
    | none => rfl
    | some u => rw [(hsm b u q).1] at e; cases e)
  have hM : Mod K mg (hidT s₁.heap H) := ⟨hKb, nsK hns, ⟨mb, nsK hb, hbb⟩, let ⟨mc, h1, h2⟩ := hlim; ⟨mc, nsK h1, h2⟩⟩
  have e0 : Env0 P w K mg (hidT s₁.heap H) callerA [] s₁ H := ⟨rfl, hM, fun b o e => of_hidT e, Nat.le_of_eq (hidT_size _ _), trivial, fun b hb => absurd (show b ∈ ([] : List Addr) from hb) (by simp), hok0, .of_eq hg⟩
  have FF := F _ hKb (nsK hns)
  have hsp' := hsp H vs hO hA
  have hl : vals.length = ps.length := by rw [← hV.length]; exact FF.len _ _ _ _ hsp'
  refine codeAny_mono (FF.run callerA [] s₁ H ⟨vals, []⟩ vals vs _ _ hr e0 (hbind s₁ vals hl) hV hsp') fun r s' h => ?_
  cases r with
  | error e => exact (cx00 h).elim
  | ok fl =>
    cases fl with
    | next => exact False.elim h
    | brk => exact False.elim h
    | cont => exact False.elim h
    | ret u =>
      obtain ⟨v, H', os, bare, un, hok', r', l, ev, q⟩ := h
      subst ev
      obtain rfl : u = Value.ref l := r'
      obtain ⟨_, its, n, ri, ho⟩ := (show ObjOk P w H' s'.heap l (.lst (ans.map V.int)) from hok' l _ q)
      refine ⟨⟨l, n, its, rfl, ho, ints_of_vals ri⟩, OldK.of_keep fun b o e => ?_, os, bare⟩
      cases q : H b with
      | none => exact un.keep b o e q (by intro z; exact absurd (show b ∈ ([] : List Addr) from z) (by simp)) (by simp)
      | some u =>
        rcases hO b with z | ⟨ob, xs, z⟩
        · rw [q] at z; cases z
        · have z2 := un.frzs b ob _ z
          obtain ⟨e1, _⟩ := hok0 b _ z
          obtain ⟨e2, _⟩ := hok' b _ z2
          rw [e] at e1; cases e1
          exact e2
theorem walk_spec {r : PySem.W.OpenSpec} {k : Nat} {q : Program} {loose : List Str} {XP : (Str → Option Value) → Heap → Prop} {YP : World → Heap → Prop} {d : DefRec} {K : Params → PySem.W.Frag} {ps : List Str} {sp : World → PySem.W.Frag → Sp} {Pre : List Ar → Prop} {ans : List Ar → List Int}
    (hdf : d.params.defaults = []) (hr : Room k callerA) (hY : ∀ (w : World) (h : Heap), YP w h → (K w.params).In h)
    (hpre : ∀ as, r.pre as = true → ∃ ars : List Ar, as = ars.map Ar.wd ∧ (∀ a ∈ ars, a.ok) ∧ Pre ars ∧ r.post as (.list ((ans ars).map .int)) = true)
    (F : ∀ (w : World) (mg : Str → Option Value) (fa : Addr) (h : Heap), (K w.params).In h → h.Ns mainGlobals mg → mg d.name = some (.ref fa) →
      ∃ fd : FuncData, (∀ (s : Shared) (us : List Value), us.length = ps.length → BindsTo s fd ⟨us, []⟩ (ps.zip us)) ∧
        ∀ base : Heap, (K w.params).In base → base.Ns mainGlobals mg → FnOk r.prog w (K w.params) mg base (CXE r.prog w) k fa fd ps (sp w (K w.params)))
    (hsp : ∀ (w : World) (K : PySem.W.Frag) (H : Hp) (vs : List V) (ars : List Ar), Pre ars → Only H → ArV K H vs ars → sp w K vs H (fun v H' => ∃ l, v = .ref l ∧ H' l = some (.lst ((ans ars).map V.int))) E0) :
    PySem.W.WalkOS q loose XP YP r d [] (fun f vs => PySem.call f vs) := by
  intro w s₀ s₁ mg mb G Y fa o pm cd doc dV kV ho hd hcd hD hmg hg args vals as hp hlay hrd hwl hlo
  have KX := hY w _ Y
  obtain ⟨fd, hb, hF⟩ := F w mg fa _ KX G.T.g hmg
  obtain ⟨ars, rfl, hok, hP, hpo⟩ := hpre args hp
  refine PySem.W.enter_call (codeAny_mono (spec_call (ans := ans ars) KX G.T.g G.T.b G.T.builtins G.T.nolimit hg hwl hok hr hF hb fun H vs hO hA => hsp w _ H vs ars hP hO hA) fun rr s' hq => ?_)
  obtain ⟨⟨l, n, its, rfl, hl, hi⟩, h2, h3, h4⟩ := hq
  exact ⟨.inl ⟨.ref l, .list ((ans ars).map .int), _, rfl, fun _ => rfl, .list hl rfl rfl (by simpa using reads_ints hi), hpo, fun z => absurd z Bool.false_ne_true⟩, h2, h3, h4⟩
end L2
namespace L2
open PySem PySem.Spec PyProof.Rows
noncomputable abbrev Cx.pins (X : Cx) (ps : List (Addr × Obj)) : Cx := { X with pn := X.pn ++ ps }
section
variable {X : Cx} {ps pins : List (Addr × Obj)} {σ : St} {H : Hp} {s : Shared} {E : XK}
theorem Cx.Ok.toPn (ok : X.Ok) : (X.pins ps).Ok := ⟨ok.mod, ok.kind, ok.glob, ok.blt, ok.above, ok.inj, ok.has, ok.cab, ok.hd, ok.frames, ok.stk, ok.exf, ok.bs, ok.bsz, ok.noex, ok.exfs, ok.funs, ok.frf⟩
theorem Cx.Ok.ofPn (ok : (X.pins ps).Ok) : X.Ok := ⟨ok.mod, ok.kind, ok.glob, ok.blt, ok.above, ok.inj, ok.has, ok.cab, ok.hd, ok.frames, ok.stk, ok.exf, ok.bs, ok.bsz, ok.noex, ok.exfs, ok.funs, ok.frf⟩
theorem Inv.toPn (I : Inv X pins σ H s) : Inv (X.pins pins) [] σ H s := ⟨I.ok.toPn, I.os, I.bare, I.base, I.loc, I.cell, I.free, I.freeC, fun p hp => I.pin p (by simpa using hp), I.hok, I.len⟩
theorem Inv.ofPn (I : Inv (X.pins ps) pins σ H s) : Inv X ps σ H s := ⟨I.ok.ofPn, I.os, I.bare, I.base, I.loc, I.cell, I.free, I.freeC, fun p hp => I.pin p (List.mem_append_left _ hp), I.hok, I.len⟩
theorem SP.ofPn {D : Ends} {f : Flow} {s' : Shared} (h : SP (X.pins ps) pins D f s') : SP X ps D f s' := by
  cases f with
  | next => obtain ⟨σ', H', I, q⟩ := h; exact ⟨σ', H', I.ofPn, q⟩
  | brk => obtain ⟨σ', H', I, q⟩ := h; exact ⟨σ', H', I.ofPn, q⟩
  | cont => obtain ⟨σ', H', I, q⟩ := h; exact ⟨σ', H', I.ofPn, q⟩
  | ret u => obtain ⟨v, σ', H', I, r, q⟩ := h; exact ⟨v, σ', H', I.ofPn, r, q⟩
noncomputable def FlyE (X : Cx) (E : XK) : Value → Shared → Prop := fun e s => ∃ ea cls od pins σ H, e = .ref ea ∧ Fly X pins σ H s ea cls od ∧ E cls od H
noncomputable abbrev Cx.tr (X : Cx) (ps : List (Addr × Obj)) (E : XK) : Cx := (X.pins ps).wish (FlyE (X.pins ps) E)
theorem Mine.unwish {EE : Value → Shared → Prop} {b : Addr} (m : Mine (X.wish EE) H b) : Mine X H b := ⟨m.new, m.free, m.loc, m.cel⟩
theorem Fly.unwish {EE : Value → Shared → Prop} {ea : Addr} {cls : Value} {od : Option Addr} (F : Fly (X.wish EE) pins σ H s ea cls od) : Fly X pins σ H s ea cls od := by
  obtain ⟨vs, e, z, hd⟩ := F.ex
  refine ⟨F.inv.unwish, F.mine.unwish, ⟨vs, e, z, ?_⟩, F.pin⟩
  cases hd with
  | none e => exact .none e
  | some e ne en m => exact .some e ne en m.unwish
theorem flies_tr : Flies (X.tr ps E) E := fun pins σ H s ea cls od F q => ⟨ea, cls, od, pins, σ, H, rfl, F.unwish, q⟩
theorem body_tr (B : Body X) : Body (X.tr ps E) := ⟨B.st, B.fr, B.ex⟩
theorem body_pn (B : Body X) : Body (X.pins ps) := ⟨B.st, B.fr, B.ex⟩
theorem passes_of {X : Cx} {E : XK} (B : Body X) (hF : Flies X E) : Passes (CXE X.prog X.w) X E := fun pins σ H1 s1 e s' I c => by
  obtain ⟨ea, cls, od, H', T, rfl, M, q, _⟩ := fly_of B I c
  exact hF pins σ H' s' ea cls od M.fly q
theorem passes_tr (B : Body X) : Passes (CXE X.prog X.w) (X.tr ps E) E := passes_of (X := X.tr ps E) (body_tr B) flies_tr
end
section
variable {X : Cx} {j : Nat} {n rn at_ : Str} {np ap lp rpos hpos rp pos : Pos} {R : Addr} {body : List Stmt}
noncomputable def xRet (K : PySem.W.Frag) (R : Addr) (at_ : Str) (D : Ends) : XK := fun cls od H2 => ∃ C d fs v, cls = .ref C ∧ od = some d ∧ XGet K C R at_ ∧ H2 d = some (.xd fs) ∧ fs.lookup at_ = some v ∧ ∀ l, H2 l = none → D.rt (.ref l) (upd H2 l (.lst [v]))
noncomputable def tTry (K : PySem.W.Frag) (R : Addr) (at_ : Str) (tb : XK → TS) : TS := fun D σ H => tb (xRet K R at_ D) D σ H
theorem ps_try {tb : XK → TS} (B : Body X) (hN : X.N.Nodup) (hbody : ∀ ps E, PSs (X.tr ps E) body (tb E)) (hgR : Gl X rn) (hmR : X.mg rn = some (.ref R)) (hxR : xcIn X.K R = true) (hj : X.N[j]? = some n) (hn : X.env.scope.names.lookup n = some .local)
    (hab : attributeBase (.Name n np) at_ X.env (eval (.Name n np) X.env) = eval (.Name n np) X.env := by rfl)
    (hdr : (rn == ("__debug__" : Str)) = false := by decide) (hd1 : (n == ("__debug__" : Str)) = false := by decide) (hd2 : (n == ("__classdict__" : Str)) = false := by decide) :
    PS X (.Try body [.ExceptHandler (some (.Name rn rp)) (some n) [.Return (some (.List [.Attribute (.Name n np) at_ ap] lp)) rpos] hpos] [] [] pos) (tTry X.K R at_ tb) := by
  intro pins s σ H D I h
  refine wpAny_Try_except (wpAny_mono (hbody pins _ [] s σ H D (I.toPn.wish _) h) (fun f s1 q => ?_) fun e s1 hx => ?_)
  · have q := q.unwish.ofPn
    cases f with
    | next => exact wpAny_execs_nil q
    | ret v => exact q
    | brk => exact q
    | cont => exact q
  · obtain ⟨ea, cls, od, pins', σ', H', rfl, F, q⟩ := hx
    refine note_ok (X := X.pins pins) (body_pn B) F.inv.ok.frames F fun s2 T2 N2 => flight_ok (X := X.pins pins) (fr := none) N2 fun s3 N3 => ?_
    obtain ⟨C, d, fs, v, rfl, rfl, xg, hd, hl, q⟩ := q
    refine wpAny_handleBy_cons (test_ok (X := X.pins pins) N3 hgR hmR xg.xc hxR xg.isa ?_ hdr) (by intro z; cases z)
    refine codeAny_handlers_suite_as (flight_ok (X := X.pins pins) (fr := none) N3 fun s4 N4 => ?_)
    refine store_ok2 (X := X.pins pins) (i := j) (v := .ref ea) N4.inv hN hj (.inl hn) rfl (fun s5 I5 ⟨a, sb, ha⟩ => ?_) (.inr hn)
    obtain ⟨vs, xe, _, _⟩ := N4.ex
    have nea : ea ≠ a := by
      rcases ha with z | z
      · rw [z]; exact N4.mine.loc
      · exact fun w => N4.mine.cel n a z w.symm
    have hjl : j < σ'.length := by rw [F.inv.len]; exact (List.getElem?_eq_some_iff.mp hj).1
    refine suite_ret (X := X.pins pins) (R := R) I5 hj (.inl hn) (by rw [List.getElem?_set_self hjl]) ⟨N4.mine.new, N4.mine.free, N4.mine.loc, N4.mine.cel⟩ (xe.kept fun o z => (sb.2 ea nea).trans z) hd hl xg hab (fun l s6 fl I6 => ?_) hd1 hd2
    obtain ⟨m, hm6, _⟩ := I6.loc
    refine wpAny_nameGoes hn hm6 (by rw [I6.ok.kind]; rfl) fun h' m' hn' sb' => ?_
    exact ⟨.ref l, _, _, (I6.forget hn' sb').ofPn, rfl, q l fl⟩
end
end L2
namespace L2
open PySem PySem.Spec PyProof.Rows
noncomputable def HasFn (K : PySem.W.Frag) (mg : Str → Option Value) (x : Str) (st : Stmt) (ps : List Str) : Prop := ∃ f fd, mg x = some (.ref f) ∧ PySem.W.keepIn K (.ref f) = true ∧ (∀ us : List Value, us.length = ps.length → bindArgs fd ⟨us, []⟩ = pure (ps.zip us)) ∧ Fun K x x st f fd
noncomputable def HasOk (P : Program) (w : World) (K : PySem.W.Frag) (mg : Str → Option Value) (base : Heap) (CX : CXT) (k : Nat) (x : Str) (ps : List Str) (sp : Sp) : Prop := ∃ f fd, mg x = some (.ref f) ∧ PySem.W.keepIn K (.ref f) = true ∧ Binds K fd ps [] ∧ FnOk P w K mg base CX k f fd ps sp
theorem HasFn.ok {P : Program} {w : World} {K : PySem.W.Frag} {mg : Str → Option Value} {base : Heap} {x : Str} {st : Stmt} {N ps : List Str} {k : Nat} {sp : Sp} (F : HasFn K mg x st ps) (S : FnScope N ps (defScope st)) (len : ∀ vs H Q E, sp vs H Q E → vs.length = ps.length)
    (hbody : ∀ (f : Addr) (cdv : Value) (A : Around) (outer : List Env) (s : Shared) (H : Hp) (vs : List V) (Q : VK) (E : XK), Room k (A.deeper (envOfC x (defScope st) s.heap.objs.size f cdv)) → sp vs H Q E →
      ∃ t, PSs (cxOf CX0 P w K mg base N x (defScope st) f cdv A outer s H E).nox (defBody st) t ∧ t { nx := fun _ H' => Q .non H', rt := Q } (L2.start N vs) H) : HasOk P w K mg base CX0 (k + 1) x ps sp := by
  obtain ⟨f, fd, hm, hk, hb, F⟩ := F
  exact ⟨f, fd, hm, hk, Binds.all hb, F.ok S len (hbody f)⟩
theorem HasFn.okE {P : Program} {w : World} {K : PySem.W.Frag} {mg : Str → Option Value} {base : Heap} {x : Str} {st : Stmt} {N ps : List Str} {k : Nat} {sp : Sp} (F : HasFn K mg x st ps) (S : FnScope N ps (defScope st)) (len : ∀ vs H Q E, sp vs H Q E → vs.length = ps.length)
    (hbody : ∀ (f : Addr) (cdv : Value) (A : Around) (outer : List Env) (s : Shared) (H : Hp) (vs : List V) (Q : VK) (E : XK), Room k (A.deeper (envOfC x (defScope st) s.heap.objs.size f cdv)) → sp vs H Q E →
      ∃ t, PSs (cxOf (CXE P w) P w K mg base N x (defScope st) f cdv A outer s H E) (defBody st) t ∧ t { nx := fun _ H' => Q .non H', rt := Q } (L2.start N vs) H) : HasOk P w K mg base (CXE P w) (k + 1) x ps sp := by
  obtain ⟨f, fd, hm, hk, hb, F⟩ := F
  exact ⟨f, fd, hm, hk, Binds.all hb, F.okE S len (hbody f)⟩
theorem hasFn_mk {K : PySem.W.Frag} {h : Heap} {mg : Str → Option Value} {x : Str} {st : Stmt} {ps : List Str} {f : Addr} {oc : Value} {od an : Option Addr} {osl : Array (Option Value)} {kV doc pm cdv ct : Value} (X : K.In h) (G : h.Ns mainGlobals mg) (a : PySem.W.nsIn K mainGlobals x = some (some (.ref f)))
    (l : K.lookup f = some ⟨oc, od, .func (PySem.W.fnOf x x (defArgs st) (defBody st) (defScope st) .none kV doc pm an cdv ct), osl⟩) (c : PySem.W.codeIn K cdv x = true) (k : PySem.W.keepIn K (.ref f) = true)
    (b : ∀ us : List Value, us.length = ps.length → bindArgs (PySem.W.fnOf x x (defArgs st) (defBody st) (defScope st) .none kV doc pm an cdv ct) ⟨us, []⟩ = pure (ps.zip us)) : HasFn K mg x st ps :=
  ⟨f, _, PySem.W.mg_of X G a, k, b, fun_mk l c k⟩
section
variable {X : Cx} {x : Str} {pos p : Pos}
theorem pe_gi {i : Int} (hm : ∃ t, X.mg x = some (.int i t)) (hg : Gl X x := by rfl) (hd : (x == ("__debug__" : Str)) = false := by decide) : PE X (.Name x pos) (tC (.int i)) := by
  obtain ⟨t, hm⟩ := hm
  exact pe_glob hg hm ⟨t, rfl⟩ hd
theorem pe_gr {a : Addr} (hm : X.mg x = some (.ref a)) (hg : Gl X x := by rfl) (hd : (x == ("__debug__" : Str)) = false := by decide) : PE X (.Name x pos) (tC (.ref a)) := pe_glob hg hm rfl hd
theorem pe_c0 {k : Nat} {ps : List Str} {sp : Sp} {e : Expr} {es : List Expr} {t : TA} (h : HasOk X.prog X.w X.K X.mg X.base CX0 k x ps sp) (hr : Room k X.A) (ha : PA X (e :: es) t) (hg : Gl X x := by rfl) (hdb : (x == ("__debug__" : Str)) = false := by decide)
    (he : starEach (e :: es) X.env = (false, eval e X.env) :: starEach es X.env := by rfl) (hpl : (backTo pos (starEach es X.env)).any (·.1) = false := by rfl) : PE X (.Call (.Name x p) (e :: es) [] pos) (tCall sp [] E0 t) := by
  obtain ⟨f, fd, hm, hk, hb, F⟩ := h
  exact pe_call F hr hg hm hk hb .nil pass0 ha hdb he hpl
theorem pe_cE {k : Nat} {ps : List Str} {sp : Sp} {e : Expr} {es : List Expr} {t : TA} {E : XK} (h : HasOk X.prog X.w X.K X.mg X.base (CXE X.prog X.w) k x ps sp) (hr : Room k X.A) (hx : Passes (CXE X.prog X.w) X E) (ha : PA X (e :: es) t) (hg : Gl X x := by rfl) (hdb : (x == ("__debug__" : Str)) = false := by decide)
    (he : starEach (e :: es) X.env = (false, eval e X.env) :: starEach es X.env := by rfl) (hpl : (backTo pos (starEach es X.env)).any (·.1) = false := by rfl) : PE X (.Call (.Name x p) (e :: es) [] pos) (tCall sp [] E t) := by
  obtain ⟨f, fd, hm, hk, hb, F⟩ := h
  exact pe_call F hr hg hm hk hb .nil hx ha hdb he hpl
end
theorem bools_get {bs : List Bool} {its : List Value} (r : Vals (bs.map V.bl) its) (i : Nat) (v : Value) (e : its[i]? = some v) : ∃ b, bs[i]? = some b ∧ v = .bool b := by
  have hl := r.length
  have hi : i < its.length := (List.getElem?_eq_some_iff.mp e).1
  rw [List.length_map] at hl
  obtain ⟨u, e1, r1⟩ := r.get (i := i) (x := .bl (bs[i]'(by omega))) (by rw [List.getElem?_map, List.getElem?_eq_getElem (by omega)]; rfl)
  rw [e] at e1
  cases e1
  exact ⟨_, List.getElem?_eq_getElem (by omega), r1⟩
theorem rng_all (bs : List Bool) : ((List.range bs.length).all fun i => (bs[i]?).getD true) = bs.all id := by
  rw [Bool.eq_iff_iff, List.all_eq_true, List.all_eq_true]
  constructor
  · intro h b hb
    obtain ⟨i, hi, e⟩ := List.getElem_of_mem hb
    have := h i (List.mem_range.mpr hi)
    simp only [List.getElem?_eq_getElem hi, Option.getD_some, e] at this
    exact this
  · intro h i hi
    have hi' := List.mem_range.mp hi
    simp only [List.getElem?_eq_getElem hi', Option.getD_some]
    exact h _ (List.getElem_mem hi')
section
variable {X : Cx}
theorem it_kept {s : Shared} {h' : Heap} {o : Obj} (hk : ∀ b x, b ∉ [s.heap.objs.size] → (s.heap.push o).get? b = some x → h'.get? b = some x) : ∀ b x, s.heap.get? b = some x → h'.get? b = some x :=
  fun b x e => hk b x (fun hm => by rw [List.mem_singleton.mp hm] at e; exact Nat.lt_irrefl _ (Heap.lt_size e)) (Heap.get?_push_of_some _ e)
theorem call_all (hc : X.calm = true) : CallR X (.builtin "all") (fun xs H Q => ∃ (p : Addr) (bs : List Bool), xs = [.ref p] ∧ SqL X.K H p (bs.map V.bl) ∧ Q (.bl (bs.all id)) H) := by
  intro pins s σ H xs us Q I r h
  obtain ⟨p, bs, rfl, hq, q⟩ := h
  obtain ⟨u, rfl, rx⟩ := vals1 r
  cases rx
  obtain ⟨its, r', pl, hz⟩ := I.list hq
  have hl := pl.isList
  have hh := I.ok.hd hc
  have hlt : p < s.heap.objs.size := by obtain ⟨_, e, _⟩ := hl; exact Heap.lt_size e
  refine call_all_walk (wpAny_pyIter_list hl ?_)
  refine ⟨s.heap.objs.size, [s.heap.objs.size, p], [s.heap.objs.size], its.toArray.size, _, _, fun i => (bs[i]?).getD true, rfl, Walks.list (A := X.A.in1) hh _ p (Nat.ne_of_lt hlt) its.toArray,
    ⟨⟨_, Heap.get?_push_size _ rfl, rfl, rfl⟩, hl.push _⟩, fun i v s' Q' E' hP hQ => ?_, fun h' tk hk => ?_⟩
  · obtain ⟨b, e, rfl⟩ := bools_get r' i v (by simpa using hP)
    simp only [e, Option.getD_some] at hQ
    exact wpAny_truthy_bool hQ
  · have e : ((List.range its.toArray.size).all fun i => (bs[i]?).getD true) = bs.all id := by
      have := r'.length
      rw [List.length_map] at this
      rw [List.size_toArray, ← this]; exact rng_all bs
    rw [e]
    exact ⟨.bl _, H, I.kept (t' := tk) (it_kept hk), rfl, q⟩
end
theorem Same.add {H : Hp} {a : Addr} {o : HO} (h : H a = none) : Same H (upd H a o) := fun b u e => by rw [upd_ne (ne_of_none e h)]; exact e
theorem Same.updn {H0 H : Hp} {a : Addr} {o : HO} (s : Same H0 H) (h : H0 a = none) : Same H0 (upd H a o) := fun b u e => by rw [upd_ne (ne_of_none e h)]; exact s b u e
theorem Same.rd {H H' : Hp} {a : Addr} {u : HO} (s : Same H H') (r : Rd H a u) : Rd H' a u := by
  rcases r with r | ⟨o, r⟩
  · exact .inl (s _ _ r)
  · exact .inr ⟨o, s _ _ r⟩
noncomputable def SameT (H H' : Hp) : Prop := ∀ b xs, H b = some (.tup xs) → H' b = some (.tup xs)
theorem Same.t {H H' : Hp} (s : Same H H') : SameT H H' := fun b xs e => s b _ e
theorem SameT.chg {H H' : Hp} {a : Addr} {o u : HO} (s : SameT H H') (h : H' a = some u) (hu : ∀ xs, u ≠ .tup xs) : SameT H (upd H' a o) := fun b xs e => by
  rw [upd_ne (ne_of (s b xs e) h (fun z => hu xs z.symm))]; exact s b xs e
noncomputable def Runs (J : It) (H1 : Hp) (xs : List V) : Prop := ∀ i H', Same H1 H' → (i < xs.length → J.go i H' ∧ ∀ x H'', J.yld i H' x H'' → H'' = H' ∧ xs[i]? = some x) ∧ (xs.length ≤ i → J.stop i H')
theorem runs_list {K : PySem.W.Frag} {H1 : Hp} {a : Addr} {xs : List V} (h : SqL K H1 a xs) : Runs (Itl K a) H1 xs := fun i H' s =>
  have q := s.seq h
  ⟨fun hi => ⟨⟨xs, xs[i], q, by simp [hi]⟩, fun x H'' ⟨e, y⟩ => ⟨e, y xs q⟩⟩, fun hi => ⟨xs, q, hi⟩⟩
theorem Paired.snoc {α β : Type} {F : α → β → Prop} : ∀ {l : List α} {m : List β} {a : α} {b : β}, Paired F l m → F a b → Paired F (l ++ [a]) (m ++ [b])
  | _, _, _, _, .nil, h => .cons h .nil
  | _, _, _, _, .cons r t, h => .cons r (Paired.snoc t h)
theorem take_snoc {α : Type} {xs : List α} {i : Nat} {x : α} (h : xs[i]? = some x) : xs.take (i + 1) = xs.take i ++ [x] := by
  obtain ⟨hi, e⟩ := List.getElem?_eq_some_iff.mp h
  rw [List.take_succ_eq_append_getElem hi, e]
theorem lc_gen {J : It} {H1 : Hp} {xs : List V} {g : TG} {tt : TT} {te : TE} {vs : List Nat} {σ : St} {Q : VK} (R : Runs J H1 xs) (keep : V → Bool) (Rel : Hp → V → V → Prop) (mono : ∀ H H' x y, SameT H H' → Rel H x y → Rel H' x y) (hz : xs.length ≤ sizeLine)
    (elt : ∀ (i : Nat) x H', xs[i]? = some x → Same H1 H' → ∀ (T : VK) (Z : Hp → Prop), (keep x = true → ∀ y H4, Same H' H4 → Rel H4 x y → T y H4) → (keep x = false → ∀ H3, Same H' H3 → Z H3) →
      g x (wipe σ vs) H' fun σ2 H2 => wipe σ2 vs = wipe σ vs ∧ tt σ2 H2 fun b H3 => if b = true then te σ2 H3 T else Z H3)
    (after : ∀ D ys H', H1 D = none → Same H1 H' → H' D = some (.lst ys) → Paired (Rel H') (xs.filter keep) ys → Q (.ref D) H') :
    ∀ D, H1 D = none → ∃ W : Nat → Nat → Hp → Prop, (∃ m, W 0 m (upd H1 D (.lst []))) ∧ ∀ i m H, W i m H →
      (J.stop i H ∧ Q (.ref D) H) ∨ (J.go i H ∧ ∃ Nx : Hp → Prop, (∀ H', Nx H' → ∃ m', m' < m ∧ W (i + 1) m' H') ∧ ∀ x H', J.yld i H x H' → g x (wipe σ vs) H' fun σ2 H2 => wipe σ2 vs = wipe σ vs ∧ tt σ2 H2 fun b H3 =>
        if b = true then te σ2 H3 fun y H4 => ∃ acc, H4 D = some (.lst acc) ∧ acc.length < sizeLine ∧ Nx (upd H4 D (.lst (acc ++ [y]))) else Nx H3) := by
  intro D hD
  let Pv : Nat → Hp → Prop := fun i H => Same H1 H ∧ ∃ ys, H D = some (.lst ys) ∧ ys.length ≤ i ∧ Paired (Rel H) ((xs.take i).filter keep) ys
  refine ⟨fun i m H => m = xs.length - i ∧ i ≤ xs.length ∧ Pv i H, ⟨xs.length, by simp, Nat.zero_le _, Same.add hD, [], upd_same, Nat.le_refl _, .nil⟩, ?_⟩
  rintro i m H ⟨rfl, hi, sm, ys, hy, ly, pr⟩
  obtain ⟨r1, r2⟩ := R i H sm
  by_cases hlt : i < xs.length
  · obtain ⟨go, yl⟩ := r1 hlt
    refine .inr ⟨go, Pv (i + 1), fun H' p' => ⟨xs.length - (i + 1), by omega, rfl, hlt, p'⟩, fun x H' yy => ?_⟩
    obtain ⟨e, hx⟩ := yl x H' yy
    subst e
    refine elt i x _ hx sm _ _ (fun hk y H4 s4 rl => ?_) fun hk H3 s3 => ?_
    · have h4 := s4 _ _ hy
      refine ⟨ys, h4, by omega, (sm.trans s4).updn hD, ys ++ [y], upd_same, by simp; omega, ?_⟩
      rw [take_snoc hx, List.filter_append, List.filter_cons, if_pos hk]
      have mt : SameT H4 (upd H4 D (.lst (ys ++ [y]))) := SameT.chg (fun _ _ e => e) h4 (by intro _ z; cases z)
      exact (Paired.mapP pr fun a b r => mono _ _ _ _ mt (mono _ _ _ _ s4.t r)).snoc (mono _ _ _ _ mt rl)
    · refine ⟨sm.trans s3, ys, s3 _ _ hy, by omega, ?_⟩
      rw [take_snoc hx, List.filter_append, List.filter_cons, if_neg (by simp [hk])]
      simp only [List.filter_nil, List.append_nil]
      exact Paired.mapP pr fun a b r => mono _ _ _ _ s3.t r
  · have e : i = xs.length := by omega
    subst e
    rw [List.take_length] at pr
    exact .inl ⟨r2 (Nat.le_refl _), after D ys H hD sm hy pr⟩
theorem paired_map {xs ys : List V} {f : V → V} (p : Paired (fun x y => y = f x) xs ys) : ys = xs.map f := by
  induction p with
  | nil => rfl
  | cons r t ih => rw [r, ih]; rfl
theorem lc_map {J : It} {H1 : Hp} {xs : List V} {g : TG} {te : TE} {vs : List Nat} {σ : St} {Q : VK} (f : V → V) (R : Runs J H1 xs) (hz : xs.length ≤ sizeLine)
    (elt : ∀ (i : Nat) x H', xs[i]? = some x → Same H1 H' → ∀ T : VK, (∀ H4, Same H' H4 → T (f x) H4) → g x (wipe σ vs) H' fun σ2 H2 => wipe σ2 vs = wipe σ vs ∧ te σ2 H2 T)
    (after : ∀ D H', H1 D = none → Same H1 H' → H' D = some (.lst (xs.map f)) → Q (.ref D) H') :
    ∀ D, H1 D = none → ∃ W : Nat → Nat → Hp → Prop, (∃ m, W 0 m (upd H1 D (.lst []))) ∧ ∀ i m H, W i m H →
      (J.stop i H ∧ Q (.ref D) H) ∨ (J.go i H ∧ ∃ Nx : Hp → Prop, (∀ H', Nx H' → ∃ m', m' < m ∧ W (i + 1) m' H') ∧ ∀ x H', J.yld i H x H' → g x (wipe σ vs) H' fun σ2 H2 => wipe σ2 vs = wipe σ vs ∧ tYes σ2 H2 fun b H3 =>
        if b = true then te σ2 H3 fun y H4 => ∃ acc, H4 D = some (.lst acc) ∧ acc.length < sizeLine ∧ Nx (upd H4 D (.lst (acc ++ [y]))) else Nx H3) :=
  lc_gen R (fun _ => true) (fun _ x y => y = f x) (fun _ _ _ _ _ r => r) hz (fun i x H' hx s T Z hT _ => by
    have := elt i x H' hx s T fun H4 s4 => hT rfl _ H4 s4 rfl
    exact this) fun D ys H' n s h p => by
    have e : xs.filter (fun _ => true) = xs := by simp
    rw [e] at p
    rw [paired_map p] at h
    exact after D H' n s h
end L2
namespace L2
open PySem PySem.Spec PyProof.Rows
noncomputable def TupK (K : PySem.W.Frag) (a : Addr) (xs : List V) : Prop := ∃ (o : Obj) (its : Array Value) (n : Nat), K.lookup a = some o ∧ o.cls = .type "tuple" ∧ o.data = .seq its n ∧ its.size ≤ sizeLine ∧ Vals xs its.toList
theorem TupK.sq {K : PySem.W.Frag} {a : Addr} {xs : List V} {H : Hp} (h : TupK K a xs) : SqT K H a xs := .inr h
noncomputable def absAll : List Value → Option (List V)
  | [] => some []
  | u :: us => match absV u, absAll us with
    | some v, some vs => some (v :: vs)
    | _, _ => none
theorem abs_rel : ∀ {u : Value} {v : V}, absV u = some v → RelV v u := by
  intro u v h
  cases u <;> simp only [absV, Option.some.injEq, reduceCtorEq] at h <;> subst h <;> first | rfl | exact ⟨_, rfl⟩
theorem absAll_vals : ∀ {us : List Value} {vs : List V}, absAll us = some vs → Vals vs us
  | [], vs, h => by cases h; exact .nil
  | u :: us, vs, h => by
    unfold absAll at h
    split at h
    · rename_i v vs' h1 h2
      cases h
      exact .cons (abs_rel h1) (absAll_vals h2)
    · cases h
noncomputable def tupIn (K : PySem.W.Frag) (a : Addr) : Option (List V) := match K.lookup a with
  | some ⟨.type t, _, .seq its _, _⟩ => if t = "tuple" then absAll its.toList else none
  | _ => none
theorem tup_of {K : PySem.W.Frag} {a : Addr} {xs : List V} (h : tupIn K a = some xs) (hl : xs.length ≤ 1000) : TupK K a xs := by
  unfold tupIn at h
  split at h
  · rename_i t d its n sl e
    split at h
    · rename_i ht
      subst ht
      have v := absAll_vals h
      have := v.length
      refine ⟨_, its, n, e, rfl, rfl, ?_, v⟩
      rw [sizeLine_eq]
      simp only [Array.length_toList] at this
      omega
    · cases h
  · cases h
noncomputable def tup2In (K : PySem.W.Frag) (a : Addr) : Option (List (List V)) := (tupIn K a).bind fun l => l.mapM fun v => match v with
  | .ref b => tupIn K b
  | _ => none
noncomputable def Tup2K (K : PySem.W.Frag) (a : Addr) (rows : List (List V)) : Prop := ∃ as : List Addr, TupK K a (as.map V.ref) ∧ Paired (TupK K) as rows
theorem mapM_rows {K : PySem.W.Frag} : ∀ {l : List V} {rows : List (List V)}, (l.mapM fun v => match v with | .ref b => tupIn K b | _ => none) = some rows → (∀ r ∈ rows, r.length ≤ 1000) → ∃ as : List Addr, l = as.map V.ref ∧ Paired (TupK K) as rows
  | [], rows, h, _ => by
    rw [List.mapM_nil] at h
    cases h
    exact ⟨[], rfl, .nil⟩
  | v :: l, rows, h, hr => by
    rw [List.mapM_cons] at h
    cases v with
    | ref b =>
      simp only [Option.bind_eq_bind, Option.bind_eq_some_iff] at h
      obtain ⟨r, h1, rs, h2, h3⟩ := h
      cases h3
      obtain ⟨as, e, p⟩ := mapM_rows h2 fun r hm => hr r (List.mem_cons_of_mem _ hm)
      exact ⟨b :: as, by rw [e]; rfl, .cons (tup_of h1 (hr r List.mem_cons_self)) p⟩
    | _ => cases h
theorem tup2_of {K : PySem.W.Frag} {a : Addr} {rows : List (List V)} (h : tup2In K a = some rows) (hl : rows.length ≤ 1000) (hr : ∀ r ∈ rows, r.length ≤ 1000) : Tup2K K a rows := by
  unfold tup2In at h
  rw [Option.bind_eq_some_iff] at h
  obtain ⟨l, h1, h2⟩ := h
  obtain ⟨as, rfl, p⟩ := mapM_rows h2 hr
  exact ⟨as, tup_of h1 (by rw [List.length_map, p.length]; exact hl), p⟩
theorem Tup2K.get {K : PySem.W.Frag} {as : List Addr} {rows : List (List V)} (p : Paired (TupK K) as rows) : ∀ {i : Nat} {v : V}, (as.map V.ref)[i]? = some v → ∃ a r, v = .ref a ∧ rows[i]? = some r ∧ TupK K a r := by
  induction p with
  | nil => intro i v e; simp at e
  | cons r t ih =>
    intro i v e
    cases i with
    | zero => simp at e; subst e; exact ⟨_, _, rfl, rfl, r⟩
    | succ i => simpa using ih (i := i) (v := v) (by simpa using e)
noncomputable def XAns (K : PySem.W.Frag) (R : Addr) (v : V) (H : Hp) (E : XK) : Prop := ∀ (C d : Addr) (H' : Hp), Same H H' → XGet K C R "answer" → H' d = some (.xd [("answer", v)]) → E (.ref C) (some d) H'
theorem XAns.mono {K : PySem.W.Frag} {R : Addr} {v : V} {H H' : Hp} {E : XK} (x : XAns K R v H E) (s : Same H H') : XAns K R v H' E := fun C d H2 s2 g h => x C d H2 (s.trans s2) g h
noncomputable def spX (C : Addr) (ans : List V → V → Prop) : Sp := fun vs H Q _ => ∃ e us ws v, vs = .ref e :: us ∧ ans us v ∧ H e = some (XO e C none ws) ∧ ∀ d, H d = none → d ≠ e → Q .non (upd (upd H d (.xd [("answer", v)])) e (XO e C (some d) ws))
noncomputable def HasX (P : Program) (w : World) (K : PySem.W.Frag) (mg : Str → Option Value) (base : Heap) (R : Addr) (k : Nat) (x : Str) (ans : List V → V → Prop) : Prop :=
  ∃ C fI fd ps, mg x = some (.ref C) ∧ XMk K C fI ∧ Binds K fd ps [] ∧ FnOkN P w K mg base (CXE P w) k fI fd ps (spX C ans) ∧ XGet K C R "answer"
noncomputable def tRaiseX (K : PySem.W.Frag) (R : Addr) (ans : List V → V → Prop) (E : XK) (t : TA) : TS := fun _ σ H => t σ H fun vs H1 => vs.length ≤ 100 ∧ ∃ v, ans vs v ∧ XAns K R v H1 E
theorem x_end {K : PySem.W.Frag} {R C : Addr} {ans : List V → V → Prop} {E : XK} {vs : List V} {H1 : Hp} (g : XGet K C R "answer") (h : ∃ v, ans vs v ∧ XAns K R v H1 E) (e : Addr) (ws : Array Value) (he : H1 e = none) :
    spX C ans (.ref e :: vs) (upd H1 e (XO e C none ws)) (fun v H2 => v = .non ∧ ∃ d, H2 e = some (XO e C (some d) ws) ∧ E (.ref C) (some d) (del H2 e)) E0 := by
  obtain ⟨v, ha, hx⟩ := h
  refine ⟨e, vs, ws, v, rfl, ha, upd_same, fun d hd hde => ⟨rfl, d, upd_same, hx C d _ (fun b o q => ?_) g ?_⟩⟩
  · have hbe : b ≠ e := ne_of_none q he
    have hbd : b ≠ d := fun z => by
      subst z
      rw [upd_ne hbe] at hd
      rw [q] at hd
      cases hd
    rw [del_ne hbe, upd_ne hbe, upd_ne hbd, upd_ne hbe]
    exact q
  · rw [del_ne hde, upd_ne hde, upd_same]
section
variable {X : Cx} {E : XK} {x : Str} {R : Addr} {np cpos pos : Pos} {k : Nat} {ans : List V → V → Prop}
theorem RoomN.mono {j k : Nat} {A : Around} (r : RoomN k A) (h : j ≤ k) : RoomN j A := ⟨by have := r.dp; omega, by have := r.un; omega⟩
theorem ps_raiseX0 (hF : Flies X E) (B : Body X) (h : HasX X.prog X.w X.K X.mg X.base R k x ans) (hr : RoomN (k + 1) X.A) (hc : X.calm = true := by rfl) (hg : Gl X x := by rfl)
    (hdb : (x == ("__debug__" : Str)) = false := by decide) : PS X (.Raise (some (.Call (.Name x np) [] [] cpos)) none pos) (tRaiseX X.K R ans E tNil) := by
  obtain ⟨C, fI, fd, ps, hm, M, hb, F, g⟩ := h
  intro pins s σ H D I h
  rw [arm_exec_Raise]
  refine wpAny_bind (wpAny_standAt (raise_calm (I.ok.hd hc) (wpAny_bind (thn ?_ fun v s1 hv => wpAny_bind (wpAny_standAt (wpAny_pure hv))))))
  refine wpAny_Call_Name_kw (ld_glob I hg hm ?_ hdb)
  exact PySem.W.callWith_K0 I.kIn M.kp (raised_mk (us := []) hF B M F hr hb I .nil h.1 (x_end g h.2))
end
theorem xret_of {K : PySem.W.Frag} {R : Addr} {v : V} {H : Hp} {D : Ends} (h : ∀ H' l, Same H H' → H' l = none → D.rt (.ref l) (upd H' l (.lst [v]))) : XAns K R v H (xRet K R "answer" D) := fun C d H' s g hd =>
  ⟨C, d, _, v, rfl, rfl, g, hd, by simp [List.lookup], fun l hl => h H' l s hl⟩
end L2
namespace L2
open PySem PySem.Spec PyProof.Rows
theorem map_at {α : Type} {c : α → V} {xs : List α} {i : Nat} {v : V} (h : (xs.map c)[i]? = some v) : ∃ x, v = c x ∧ xs[i]? = some x := by
  rw [List.getElem?_map] at h
  cases e : xs[i]? with
  | none => rw [e] at h; cases h
  | some x => rw [e] at h; exact ⟨x, (Option.some.inj h).symm, rfl⟩
theorem at_map {α : Type} {c : α → V} {xs : List α} {i : Nat} {x : α} (h : xs[i]? = some x) : (xs.map c)[i]? = some (c x) := by rw [List.getElem?_map, h]; rfl
theorem atI_map {α : Type} {c : α → V} {xs : List α} {j : Nat} {x : α} (h : xs[j]? = some x) : atI (xs.map c) (j : Int) = some (c x) := atI_nat (at_map h)
theorem cxOf_K {CX : CXT} {P : Program} {w : World} {K : PySem.W.Frag} {mg : Str → Option Value} {base : Heap} {N : List Str} {qual : Str} {scope : Scope} {f : Addr} {cd : Value} {A : Around} {outer : List Env} {s : Shared} {H : Hp} {E : XK} :
    (cxOf CX P w K mg base N qual scope f cd A outer s H E).K = K := rfl
theorem tlc_map {wi : TI} {J : It} {H H1 : Hp} {xs : List V} {g : TG} {te : TE} {vs : List Nat} {σ : St} {Q : VK} (f : V → V) (hw : ∀ R : It → Hp → Prop, R J H1 → wi σ H R) (R : Runs J H1 xs) (hz : xs.length ≤ sizeLine)
    (elt : ∀ (i : Nat) x H', xs[i]? = some x → Same H1 H' → ∀ T : VK, (∀ H4, Same H' H4 → T (f x) H4) → g x (wipe σ vs) H' fun σ2 H2 => wipe σ2 vs = wipe σ vs ∧ te σ2 H2 T)
    (after : ∀ D H', H1 D = none → Same H1 H' → H' D = some (.lst (xs.map f)) → Q (.ref D) H') : tLc wi g tYes te vs σ H Q := hw _ (lc_map f R hz elt after)
theorem tlc_gen {wi : TI} {J : It} {H H1 : Hp} {xs : List V} {g : TG} {tt : TT} {te : TE} {vs : List Nat} {σ : St} {Q : VK} (keep : V → Bool) (Rel : Hp → V → V → Prop) (mono : ∀ H H' x y, SameT H H' → Rel H x y → Rel H' x y) (hw : ∀ R : It → Hp → Prop, R J H1 → wi σ H R) (R : Runs J H1 xs) (hz : xs.length ≤ sizeLine)
    (elt : ∀ (i : Nat) x H', xs[i]? = some x → Same H1 H' → ∀ (T : VK) (Z : Hp → Prop), (keep x = true → ∀ y H4, Same H' H4 → Rel H4 x y → T y H4) → (keep x = false → ∀ H3, Same H' H3 → Z H3) →
      g x (wipe σ vs) H' fun σ2 H2 => wipe σ2 vs = wipe σ vs ∧ tt σ2 H2 fun b H3 => if b = true then te σ2 H3 T else Z H3)
    (after : ∀ D ys H', H1 D = none → Same H1 H' → H' D = some (.lst ys) → Paired (Rel H') (xs.filter keep) ys → Q (.ref D) H') : tLc wi g tt te vs σ H Q := hw _ (lc_gen R keep Rel mono hz elt after)
theorem tlc_ix {wi : TI} {J : It} {H H1 : Hp} {xs : List V} {g : TG} {te : TE} {vs : List Nat} {σ : St} {Q : VK} (f : Nat → V) (hw : ∀ R : It → Hp → Prop, R J H1 → wi σ H R) (R : Runs J H1 xs) (hz : xs.length ≤ sizeLine)
    (elt : ∀ (i : Nat) x H', xs[i]? = some x → Same H1 H' → ∀ T : VK, (∀ H4, Same H' H4 → T (f i) H4) → g x (wipe σ vs) H' fun σ2 H2 => wipe σ2 vs = wipe σ vs ∧ te σ2 H2 T)
    (after : ∀ D H', H1 D = none → Same H1 H' → H' D = some (.lst ((List.range xs.length).map f)) → Q (.ref D) H') : tLc wi g tYes te vs σ H Q := by
  refine hw _ fun D hD => ?_
  let Pv : Nat → Hp → Prop := fun i H => Same H1 H ∧ H D = some (.lst ((List.range i).map f))
  refine ⟨fun i m H => m = xs.length - i ∧ i ≤ xs.length ∧ Pv i H, ⟨xs.length, by simp, Nat.zero_le _, Same.add hD, upd_same⟩, ?_⟩
  rintro i m H ⟨rfl, hi, sm, hy⟩
  obtain ⟨r1, r2⟩ := R i H sm
  by_cases hlt : i < xs.length
  · obtain ⟨go, yl⟩ := r1 hlt
    refine .inr ⟨go, Pv (i + 1), fun H' p' => ⟨xs.length - (i + 1), by omega, rfl, hlt, p'⟩, fun x H' yy => ?_⟩
    obtain ⟨e, hx⟩ := yl x H' yy
    subst e
    refine elt i x _ hx sm _ fun H4 s4 => ?_
    refine ⟨_, s4 _ _ hy, by simp only [List.length_map, List.length_range]; omega, (sm.trans s4).updn hD, ?_⟩
    rw [upd_same, List.range_succ, List.map_append]
    rfl
  · have e : i = xs.length := by omega
    subst e
    exact .inl ⟨r2 (Nat.le_refl _), after D H hD sm hy⟩
section
variable {X : Cx} {K : PySem.W.Frag}
theorem ix_listK (h : X.K = K) : IxR X (rIxL K) := h ▸ ix_list
theorem ix_tupK (h : X.K = K) : IxR X (rIxT K) := h ▸ ix_tup
theorem op_in_seqK (h : X.K = K) : OpR X (compareOp .In) (rIn K false) := h ▸ op_in_seq
theorem sl_listK (h : X.K = K) : SlR X (rSlL K) := h ▸ sl_list
theorem call_len_seqK (h : X.K = K) : CallR X (.builtin "len") (fun xs H Q => ∃ p ys, xs = [.ref p] ∧ (SqL K H p ys ∨ SqT K H p ys) ∧ Q (.int ys.length) H) := h ▸ call_len_seq
theorem call_allK (h : X.K = K) (hc : X.calm = true) : CallR X (.builtin "all") (fun xs H Q => ∃ (p : Addr) (bs : List Bool), xs = [.ref p] ∧ SqL K H p (bs.map V.bl) ∧ Q (.bl (bs.all id)) H) := h ▸ call_all hc
theorem pi_listK {tg l : Expr} {tl : TE} (h : X.K = K) (hl : PE X l tl) : PI X tg l (iList K tl) := h ▸ pi_list hl
theorem pi_tupK {tg l : Expr} {tl : TE} (h : X.K = K) (hl : PE X l tl) : PI X tg l (iTup K tl) := h ▸ pi_tup hl
theorem pe_fldK {e : Expr} {ta : TE} {f : Str} {pos : Pos} (h : X.K = K) (he : PE X e ta) (hb : attributeBase e f X.env (eval e X.env) = eval e X.env) : PE X (.Attribute e f pos) (tFld K ta f) := h ▸ pe_fld he hb
theorem ps_fldK {o value : Expr} {ta tv : TE} {f : Str} {pos pos' : Pos} (h : X.K = K) (ha : PE X o ta) (hv : PE X value tv) (hs : swapsWith value (some (.Attribute o f pos')) pos.line X.env = pure false) : PS X (.Assign [.Attribute o f pos'] value pos) (sFld K ta tv f) := h ▸ ps_fld ha hv hs
theorem pg_tupK {es : List Expr} {k : Nat} {t : TGs} {n : Nat} {pos : Pos} (h : X.K = K) (hc : X.calm = true) (hp : PGs X es t)
    (hn : (assignEach es X.env).length = n := by rfl) (hst : (assignEach es X.env).findIdx? (·.1) = none := by rfl) : PG X (.Tuple es k pos) (gTup K n t) := h ▸ pg_tup hc hp hn hst
end
end L2
namespace L2
open PySem PySem.Spec PyProof.Rows
noncomputable def EntOk (w : World) (e : DictEntry) (p : Key × V) : Prop := e.hash = keyH w p.1 ∧ keyIs p.1 e.key = true ∧ RelV p.2 e.val
noncomputable def DctK (w : World) (K : PySem.W.Frag) (a : Addr) (kvs : List (Key × V)) : Prop := (a == sysModules) = false ∧ kvs.length ≤ 1000 ∧ (kvs.map (·.1)).Nodup ∧ ∃ es n, K.lookup a = some ⟨.type "dict", none, .dict es n, #[]⟩ ∧ Paired (EntOk w) es.toList kvs
theorem ents_of {P : Program} {w : World} : ∀ {es : List DictEntry} {kvs : List (Key × V)}, Paired (EntOk w) es kvs → ∃ vs : List (Key × Value), KV kvs vs ∧ Pairs (mixKind P w) es vs ∧ vs.map (·.1) = kvs.map (·.1) ∧ ∀ e ∈ es, ∃ k, (mixKind P w).is k e.key = true ∧ e.hash = (mixKind P w).hash k
  | _, _, .nil => ⟨[], .nil, .nil, rfl, fun e h => nomatch h⟩
  | e :: es, p :: kvs, .cons r t => by
    obtain ⟨vs, h1, h2, h3, h4⟩ := ents_of (P := P) t
    refine ⟨(p.1, e.val) :: vs, .cons ⟨rfl, r.2.2⟩ h1, .cons r.2.1 rfl h2, by rw [List.map_cons, List.map_cons, h3], fun e' he => ?_⟩
    rcases List.mem_cons.mp he with rfl | he
    · exact ⟨p.1, r.2.1, r.1⟩
    · exact h4 e' he
theorem DctK.at_ {P : Program} {w : World} {K : PySem.W.Frag} {a : Addr} {kvs : List (Key × V)} {h : Heap} (d : DctK w K a kvs) (X : K.In h) : kvs.length ≤ sizeLine ∧ (a == sysModules) = false ∧ ∃ vs, KV kvs vs ∧ h.DictOf (mixKind P w) a vs := by
  obtain ⟨d1, d2, d3, es, n, d4, d5⟩ := d
  obtain ⟨vs, h1, h2, h3, h4⟩ := ents_of (P := P) d5
  refine ⟨by rw [sizeLine_eq]; omega, d1, vs, h1, _, es, n, X _ _ d4, ⟨rfl, rfl, rfl⟩, rfl, fun e he => h4 e (by simpa using he), h2, by rw [h3]; exact d3⟩
noncomputable def tKGet (w : World) (K : PySem.W.Frag) (td ty : TE) : TE := fun σ H Q => td σ H fun x H1 => ty σ H1 fun y H2 => ∃ a kvs k v, x = .ref a ∧ DctK w K a kvs ∧ y = kV k ∧ valV kvs k = some v ∧ Q v H2
noncomputable def tKGet1 (w : World) (K : PySem.W.Frag) (td ty : TE) : TE := fun σ H Q => td σ H fun x H1 => ∃ a kvs, x = .ref a ∧ DctK w K a kvs ∧ ty σ H1 fun y H2 => ∃ k, y = kV k ∧ Q ((valV kvs k).getD .non) H2
noncomputable def tKGet2 (w : World) (K : PySem.W.Frag) (td ty tx : TE) : TE := fun σ H Q => td σ H fun x H1 => ∃ a kvs, x = .ref a ∧ DctK w K a kvs ∧ ty σ H1 fun y H2 => tx σ H2 fun z H3 => ∃ k, y = kV k ∧ Q ((valV kvs k).getD z) H3
section
variable {X : Cx} {o i e f : Expr} {pos apos cpos : Pos} {td ty tx : TE} {w : World} {K : PySem.W.Frag}
theorem pe_kget (hw : X.w = w) (hK : X.K = K) (ho : PE X o td) (hi : PE X i ty) (hs : NoSl i) : PE X (.Subscript o i pos) (tKGet w K td ty) := by
  subst hw hK
  intro pins s σ H Q I h
  refine subD_of PySem.F.slot_dict_getitem.lookup hs (thn (ho pins s σ H _ I h) fun u s1 ⟨x, H1, I1, rx, q1⟩ => thn (hi pins s1 σ H1 _ I1 q1) fun iv s2 ⟨y, H2, I2, ry, a, kvs, k, v, ex, g, ey, l, q2⟩ => ?_)
  subst ex ey
  obtain rfl : u = Value.ref a := rx
  obtain ⟨z, hd, vs, rel, dd⟩ := g.at_ (P := X.prog) I2.kIn
  obtain ⟨w', hw, rw'⟩ := RelO.some_of (v := v) (o := valueAt vs k) (by rw [← l]; exact rel.val k)
  exact ⟨dd.typeIs, wpAny_getItem_of (kV_is ry) dd.mapOf hw ⟨v, H2, I2.tok _, rw', q2⟩⟩
end
end L2
namespace L2
open PySem PySem.Spec PyProof.Rows
section
variable {prog : Program} {w : World} {A : Around} {E : Value → Shared → Prop} {s : Shared}
theorem callType_kw {T newId initId : String} {Bn Bi : Builtin} {args : List Value} {kw : List (Str × Value)} {S : PySem.Spec} {Q Q1 : Value → Shared → Prop} (ft : TypeCalled T newId initId)
    (hct : checkTypeCall T ⟨args, kw⟩ = pure ()) (hcn : checkBuiltinCall newId ⟨.type T :: args, kw⟩ = pure ())
    (entryN : entryFor table newId = some Bn) (entryI : entryFor table initId = some Bi) (g : Meets (Bn ⟨.type T :: args, kw⟩) S)
    (h : S A.in1 (wants Q1 E) s)
    (hnext : ∀ obj s1, Q1 obj s1 → s1.TypeIs obj T ∧ argsOk initId ⟨obj :: args, kw⟩ ∧ ∃ Si, Meets (Bi ⟨obj :: args, kw⟩) Si ∧ Si A.in1 (wants (fun r s2 => r = .none ∧ Q obj s2) E) s1) :
    wpAny (model prog w) A (call (.type T) args kw) Q E s := by
  obtain ⟨c, tl, hmro⟩ := ft.mro
  have hmade := ft.made
  have hsub := ft.sub
  refine wpAny_call (codeAny_of_tree ?_)
  show wpAny _ _ (callAny (.type T) _) _ _ _
  refine wpAny_pure ⟨Code.quiet_builtin _ (by decide +kernel), codeAny_builtin F.entry_type_call ?_⟩
  rw [Around.under_plain (weight_type_call_type T args kw) (units_type_call_type T args kw)]
  have h1 := ft.notType
  have h2 := ft.canCreate
  repeat (any_goals (first | assumption | wp_step))
  refine codeAny_mono (codeAny_call_builtin ft.plain entryN (wpAny_of_eq hcn (g prog w A.in1 _ s h))) fun r s1 hr => ?_
  cases r with
  | error e => exact hr
  | ok fl =>
    cases fl with
    | ret obj =>
      obtain ⟨hT, hok, Si, gi, hsi⟩ := hnext _ _ hr
      have hli := ft.init.lookup
      have hbi := ft.init.bind obj
      repeat (any_goals (first | assumption | wp_step))
      refine codeAny_mono (codeAny_call_builtin ft.init.plain entryI (ft.init.check _ _ _ _ _ _ _ _ hT hok (gi prog w A.in1 _ s1 hsi))) fun r2 s2 hr2 => ?_
      cases r2 with
      | error e => exact hr2
      | ok fl2 =>
        cases fl2 with
        | ret r =>
          obtain ⟨rfl, hq⟩ := hr2
          repeat (any_goals (first | assumption | wp_step))
        | _ => exact hr2.elim
    | _ => exact hr.elim
theorem obj_init_kw {T newId : String} {self a v : Value} (hl : typeLookup (.type T) "__init__" = pure (some (.builtin "object.__init__")))
    (hm : Bind.madeBy (.type T) = pure (some newId)) (hne : (some newId != some "object.__new__") = true) :
    Meets (Builtin.«object.__init__» ⟨[self, a], [("start", v)]⟩) (fun _ R s => s.TypeIs self T ∧ R (.ok (.ret .none)) s) := by
  refine Meets.of_wp fun prog w A R s hs => ?_
  obtain ⟨hT, hq⟩ := hs
  repeat (any_goals (first | assumption | wp_step))
  exact ⟨_, rfl, hq⟩
theorem typeCall_enumS (a v : Value) : checkTypeCall "enumerate" ⟨[a], [("start", v)]⟩ = pure () := by kernel_rfl
theorem newCall_enumS (a v : Value) : checkBuiltinCall "enumerate.__new__" ⟨[.type "enumerate", a], [("start", v)]⟩ = pure () := by kernel_rfl
theorem args_initS (o a v : Value) : argsOk "object.__init__" ⟨[o, a], [("start", v)]⟩ := by
  unfold argsOk; rw [signature?_of (id := "object.__init__") (n := ['_', '_', 't', 'i', 'n', 'i', '_', '_']) (o := ['t', 'c', 'e', 'j', 'b', 'o']) (by kernel_rfl) F.owner_object]; kernel_rfl
set_option maxHeartbeats 4000000 in
theorem meets_enumS (l : Addr) (items : Array Value) (n : Nat) (dct : Option Addr) (sl : Array (Option Value)) (t : Tok) :
    Meets (Builtin.«enumerate.__new__» ⟨[.type "enumerate", .ref l], [("start", .int 1 t)]⟩) (fun _ R s => s.heap.get? l = some { cls := .type "list", dict := dct, data := .seq items n, slots := sl } ∧
      R (.ok (.ret (.ref (s.heap.push { cls := .type "list_iterator", data := .fields #[.ref l, .int 0 0] }).objs.size)))
        { s with heap := (s.heap.push { cls := .type "list_iterator", data := .fields #[.ref l, .int 0 0] }).push { cls := .type "enumerate", data := .fields #[.none, .bool false, .ref s.heap.objs.size, rawInt 1, .none, .none] } }) :=
  .of_wp fun prog w A R s h => by
    obtain ⟨hp, g, d, tk, os⟩ := s; obtain ⟨hl, h⟩ := h
    have hsub := sub_enumerate
    have hL : Heap.IsList (Shared.heap ⟨hp, g, d, tk, os⟩) l items := ⟨_, hl, rfl, n, rfl⟩
    wp_walk using AutoSeq1.wpAny_loadPart' hl
    refine wpAny_stack_any fun st => wpAny_pure ?_
    split
    · rename_i c _ _ _ _ _
      cases (c == Value.type "enumerate")
      · wp_walk using AutoSeq1.wpAny_loadPart' hl, wpAny_pyIter_list hL
        exact ⟨_, rfl, h⟩
      · wp_walk using AutoSeq1.wpAny_loadPart' hl, wpAny_pyIter_list hL
        exact ⟨_, rfl, h⟩
    · wp_walk using AutoSeq1.wpAny_loadPart' hl, wpAny_pyIter_list hL
      exact ⟨_, rfl, h⟩
end
section
variable {prog : Program} {w : World} {A : Around} {E : Value → Shared → Prop} {s : Shared}
theorem enumK_item {en iw lst : Addr} {c : Int} {n : Nat} {its : Array Value} {y old : Value} {QQ : Value → Shared → Prop}
    (ke : IsEnum s.heap en iw c old) (ki : s.heap.IsListIter iw lst n) (kl : s.heap.IsList lst its) (ky : its[n]? = some y) (ne : en ≠ iw)
    (fin : ∀ h', IsEnumOut h' en iw (c + 1) y s.heap.objs.size → h'.IsListIter iw lst (n + 1) →
      h'.get? s.heap.objs.size = some { cls := .type "tuple", data := .seq #[.int c s.toks, y] } → h'.objs.size = s.heap.objs.size + 1 →
      (∀ b o, b ≠ en → b ≠ iw → s.heap.get? b = some o → h'.get? b = some o) → QQ (.ref s.heap.objs.size) { s with heap := h', toks := s.toks + 1 }) :
    wpAny (model prog w) A (Builtin.«enumerate.__next__» ⟨[.ref en], []⟩) (fun fin s' => ∃ v, fin = .done (.ret v) ∧ QQ v s') E s := by
  obtain ⟨hp, gg, dd, tk, oo⟩ := s
  refine wpAny_bind (wpAny_pure ?_)
  refine wpAny_bind (wpAny_field ke rfl (x := .ref iw) rfl (wpAny_bind (wpAny_nextOf_list_item ki kl ky fun g1 ki1 q1 => ?_)))
  replace q1 : Heap.SameBut iw hp g1 := q1
  have ke1 : IsEnum g1 en iw c old := (q1.2 en ne).trans ke
  refine wpAny_bind (wpAny_field (s := ⟨g1, gg, dd, tk, oo⟩) ke1 rfl (x := rawInt c) rfl ?_)
  refine wpAny_bind (wpAny_field (s := ⟨g1, gg, dd, tk, oo⟩) ke1 rfl (x := .none) rfl ?_)
  show wpAny _ _ (mkInt c >>= _) _ _ ⟨g1, gg, dd, tk, oo⟩
  refine wpAny_bind (wpAny_mkInt ?_)
  refine wpAny_bind (wpAny_setField_rec (s := ⟨g1, gg, dd, tk + 1, oo⟩) ke1 (by simp) fun g2 ke2 q2 => ?_)
  replace q2 : Heap.SameBut en g1 g2 := q2
  replace ke2 : IsEnum g2 en iw (c + 1) old := ke2
  refine wpAny_bind (wpAny_setField_rec (s := ⟨g2, gg, dd, tk + 1, oo⟩) ke2 (by simp) fun g3 ke3 q3 => ?_)
  replace q3 : Heap.SameBut en g2 g3 := q3
  replace ke3 : IsEnum g3 en iw (c + 1) old := ke3
  show wpAny _ _ (newTuple [.int c tk, y] >>= _) _ _ ⟨g3, gg, dd, tk + 1, oo⟩
  refine wpAny_bind (wpAny_newTuple ?_)
  have ke4 : IsEnum (g3.push { cls := .type "tuple", data := .seq #[.int c tk, y] }) en iw (c + 1) old := Heap.get?_push_of_some _ ke3
  generalize eg : g3.push { cls := .type "tuple", data := .seq #[.int c tk, y] } = g4 at ke4
  have z3 : g3.objs.size = hp.objs.size := by rw [q3.1, q2.1, q1.1]
  have le : en < hp.objs.size := Heap.lt_size ke
  have t4 : g4.get? hp.objs.size = some { cls := .type "tuple", data := .seq #[.int c tk, y] } := by rw [← eg, ← z3]; exact Heap.get?_push_size _ rfl
  have z4 : g4.objs.size = hp.objs.size + 1 := by rw [← eg, Heap.size_push, z3]
  have k4 : ∀ b o, b ≠ en → b ≠ iw → hp.get? b = some o → g4.get? b = some o := fun b o be bi hb => by
    rw [← eg]; exact Heap.get?_push_of_some _ (q3.extBut b o be (q2.extBut b o be (q1.extBut b o bi hb)))
  have i4 : g4.IsListIter iw lst (n + 1) := by
    rw [← eg]; obtain ⟨o, ho, r⟩ := (ki1.extBut q2.extBut (Ne.symm ne)).extBut q3.extBut (Ne.symm ne); exact ⟨o, Heap.get?_push_of_some _ ho, r⟩
  show wpAny _ _ (Builtin.SmallTypes.ownedTupleIsFree (.ref en) >>= _) _ _ ⟨g4, gg, dd, tk + 1, oo⟩
  rw [z3]
  clear eg ke3 q3 ke2 q2 ke1 q1 ki1 z3 g3 g2 g1
  refine wpAny_bind ?_
  · unfold Builtin.SmallTypes.ownedTupleIsFree
    refine wpAny_bind (wpAny_field ke4 rfl (x := .none) rfl (wpAny_pure ?_))
    simp only [if_true]
    refine wpAny_bind (wpAny_rule (wpAny_bind (wpAny_field ke4 rfl (x := old) rfl ?_)))
    refine wpAny_bind (wpAny_setField_rec ke4 (by simp) fun g5 ke5 q5 => ?_)
    replace q5 : Heap.SameBut en g4 g5 := q5
    replace ke5 : IsEnum g5 en iw (c + 1) y := ke5
    show wpAny _ _ (Builtin.SmallTypes.ownedTupleHandOut (.ref en) (.ref hp.objs.size) >>= _) _ _ ⟨g5, gg, dd, tk + 1, oo⟩
    refine wpAny_bind ?_
    · unfold Builtin.SmallTypes.ownedTupleHandOut
      refine wpAny_bind (wpAny_setField_rec ke5 (by simp) fun g6 ke6 q6 => ?_)
      replace q6 : Heap.SameBut en g5 g6 := q6
      replace ke6 : IsEnumOut g6 en iw (c + 1) y hp.objs.size := ke6
      refine wpAny_setField_rec ke6 (by simp) fun g7 ke7 q7 => ?_
      replace q7 : Heap.SameBut en g6 g7 := q7
      replace ke7 : IsEnumOut g7 en iw (c + 1) y hp.objs.size := ke7
      refine wpAny_bind (wpAny_letGo (wpAny_pure ⟨_, rfl, fin g7 ke7 ?_ ?_ ?_ ?_⟩))
      · exact ((i4.extBut q5.extBut (Ne.symm ne)).extBut q6.extBut (Ne.symm ne)).extBut q7.extBut (Ne.symm ne)
      · exact q7.extBut _ _ (Nat.ne_of_gt le) (q6.extBut _ _ (Nat.ne_of_gt le) (q5.extBut _ _ (Nat.ne_of_gt le) t4))
      · rw [q7.1, q6.1, q5.1, z4]
      · exact fun b o be bi hb => q7.extBut b o be (q6.extBut b o be (q5.extBut b o be (k4 b o be bi hb)))
theorem nextK_item {en iw lst : Addr} {c : Int} {n : Nat} {its : Array Value} {y old : Value} {QQ : Option Value → Shared → Prop}
    (ke : IsEnum s.heap en iw c old) (ki : s.heap.IsListIter iw lst n) (kl : s.heap.IsList lst its) (ky : its[n]? = some y) (ne : en ≠ iw)
    (fin : ∀ h', IsEnumOut h' en iw (c + 1) y s.heap.objs.size → h'.IsListIter iw lst (n + 1) →
      h'.get? s.heap.objs.size = some { cls := .type "tuple", data := .seq #[.int c s.toks, y] } → h'.objs.size = s.heap.objs.size + 1 →
      (∀ b o, b ≠ en → b ≠ iw → s.heap.get? b = some o → h'.get? b = some o) → QQ (some (.ref s.heap.objs.size)) { s with heap := h', toks := s.toks + 1 }) :
    wpAny (model prog w) A (pyNext (.ref en)) QQ E s := by
  have ty : s.TypeIs (.ref en) "enumerate" := ⟨_, ke, rfl⟩
  unfold pyNext
  exact wpAny_bind (wpAny_attempt (wpAny_callSpecial?_slot (name := Str.ofString "__next__") ty F.slot_enumerate_next
    (wpAny_call_entry F.slot_enumerate_next ty F.entry_enumerate_next (enumK_item ke ki kl ky ne fun h' q1 q2 q3 q4 q5 => wpAny_pure (fin h' q1 q2 q3 q4 q5)) (F.args_enumerate_next_1 _))))
theorem nextK_end {en iw lst : Addr} {c : Int} {n : Nat} {its : Array Value} {old : Value} {QQ : Option Value → Shared → Prop} (hh : A.handled = none)
    (ke : IsEnum s.heap en iw c old) (ki : s.heap.IsListIter iw lst n) (kl : s.heap.IsList lst its) (ky : its[n]? = none)
    (fin : ∀ h', Heap.ExtBut iw s.heap h' → QQ none { s with heap := h' }) : wpAny (model prog w) A (pyNext (.ref en)) QQ E s := by
  have ty : s.TypeIs (.ref en) "enumerate" := ⟨_, ke, rfl⟩
  unfold pyNext
  refine wpAny_bind (wpAny_attempt (wpAny_callSpecial?_slot (name := Str.ofString "__next__") ty F.slot_enumerate_next
    (wpAny_call_entry F.slot_enumerate_next ty F.entry_enumerate_next ?_ (F.args_enumerate_next_1 _))))
  refine wpAny_bind (wpAny_pure ?_)
  refine wpAny_bind (wpAny_field ke rfl (x := .ref iw) rfl (wpAny_bind (wpAny_nextOf_list_end hh ki kl ky fun h' x he' hx' => ?_)))
  obtain ⟨o, ho, hc⟩ := hx'
  exact wpAny_bind (wpAny_isInstance (T := "StopIteration") (b := true) ⟨o, ho, hc⟩ isSubtype_stop (wpAny_pure (fin _ he')))
theorem call_enumS {lst : Addr} {its : Array Value} {t : Tok} {QQ : Value → Shared → Prop} (kl : s.heap.IsList lst its)
    (fin : ∀ h', IsEnum h' (s.heap.objs.size + 1) s.heap.objs.size 1 .none → h'.IsListIter s.heap.objs.size lst 0 → h'.objs.size = s.heap.objs.size + 2 →
      (∀ b o, s.heap.get? b = some o → h'.get? b = some o) → QQ (.ref (s.heap.objs.size + 1)) { s with heap := h' }) :
    wpAny (model prog w) A (call (.type "enumerate") [.ref lst] [("start", .int 1 t)]) QQ E s := by
  obtain ⟨⟨c, dct, dt, sl⟩, hl, hc, n, hd⟩ := kl
  replace hc : c = .type "list" := hc
  replace hd : dt = .seq its n := hd
  subst hc hd
  refine callType_kw (Q1 := fun obj s1 => s1.TypeIs obj "enumerate" ∧ QQ obj s1) F.called_enumerate (typeCall_enumS _ _) (newCall_enumS _ _) F.entry_enumerate_new F.entry_object_init (meets_enumS lst its n dct sl t) ⟨hl, ?_⟩
    fun obj s1 hq => ⟨hq.1, args_initS _ _ _, _, obj_init_kw F.called_enumerate.init.lookup F.called_enumerate.made (by decide), hq.1, rfl, hq.2⟩
  have hz : (s.heap.push { cls := .type "list_iterator", data := .fields #[.ref lst, .int 0 0] }).objs.size = s.heap.objs.size + 1 := Heap.size_push ..
  show _ ∧ _
  rw [hz]
  have he : IsEnum ((s.heap.push { cls := .type "list_iterator", data := .fields #[.ref lst, .int 0 0] }).push
      { cls := .type "enumerate", data := .fields #[.none, .bool false, .ref s.heap.objs.size, rawInt 1, .none, .none] }) (s.heap.objs.size + 1) s.heap.objs.size 1 .none := by
    have := Heap.get?_push_size (s.heap.push { cls := .type "list_iterator", data := .fields #[.ref lst, .int 0 0] })
      (o := { cls := .type "enumerate", data := .fields #[.none, .bool false, .ref s.heap.objs.size, rawInt 1, .none, .none] }) rfl
    rw [hz] at this; exact this
  exact ⟨⟨_, he, rfl⟩, fin _ he ⟨_, Heap.get?_push_of_some _ (Heap.get?_push_size _ rfl), rfl, rfl⟩ (by rw [Heap.size_push, hz]) fun b o x => Heap.get?_push_of_some _ (Heap.get?_push_of_some _ x)⟩
end
noncomputable def IteS (K : PySem.W.Frag) (a : Addr) : It :=
  ⟨fun i H => ∃ (xs : List V) (x : V), SqL K H a xs ∧ xs[i]? = some x, fun i H v H' => ∃ T x, v = .ref T ∧ H T = none ∧ H' = upd H T (.tup [.int (((i + 1 : Nat)) : Int), x]) ∧ ∀ xs, SqL K H a xs → xs[i]? = some x, fun i H => ∃ xs : List V, SqL K H a xs ∧ xs.length ≤ i⟩
theorem turn_enumS {P : Program} {w : World} {K : PySem.W.Frag} {elts : List Expr} {kk : Nat} {tpos : Pos} (a e it : Addr) :
    Turn P w K (.Tuple elts kk tpos) (IteS K a) [e, it] e (fun i h => (∃ old, IsEnum h e it (((i + 1 : Nat)) : Int) old) ∧ h.IsListIter it a i ∧ e ≠ it) where
  mem := by simp
  obj := fun i h st b hb => by
    obtain ⟨⟨old, he⟩, ⟨o, ho, hc, hd⟩, _⟩ := st
    have e' : b = e ∨ b = it := by simpa using hb
    rcases e' with z | z
    · rw [z]; exact ⟨_, he, fun v q => nomatch q⟩
    · rw [z]; exact ⟨o, ho, fun v q => by rw [hd] at q; cases q⟩
  keep := fun i h h' st k => let ⟨⟨old, he⟩, hi, hne⟩ := st; ⟨⟨old, k e (by simp) _ he⟩, hi.at fun o q => k it (by simp) o q, hne⟩
  item := by
    intro X hP hw hK hc i pins s σ H E I hf st hg
    subst hP hw hK
    obtain ⟨⟨old, he⟩, hit, hne⟩ := st
    obtain ⟨xs, x, hq, hx⟩ := hg
    obtain ⟨its, rv, p, hz⟩ := I.list hq
    obtain ⟨u, hu, ru⟩ := rv.get hx
    have hel : e < s.heap.objs.size := Heap.lt_size he
    have hil : it < s.heap.objs.size := by obtain ⟨_, q, _⟩ := hit; exact Heap.lt_size q
    refine nextK_item he hit p.isList (y := u) (by simpa using hu) hne fun h' ho hit' hT hsz hk => ?_
    refine ⟨_, rfl, wpAny_letOwnedTupleGo_enum (s := { s with heap := h', toks := s.toks + 1 }) ho fun h'' he' sb => ?_⟩
    have hT2 : h''.get? s.heap.objs.size = some { cls := .type "tuple", data := .seq #[.int (((i + 1 : Nat)) : Int) s.toks, u] } := (sb.2 _ (Nat.ne_of_gt hel)).trans hT
    have new : ObjOk X.prog X.w (upd H s.heap.objs.size (.tup [.int (((i + 1 : Nat)) : Int), x])) h'' s.heap.objs.size (.tup [.int (((i + 1 : Nat)) : Int), x]) :=
      ⟨by show 2 ≤ sizeLine; decide, [.int (((i + 1 : Nat)) : Int) s.toks, u], .cons ⟨_, rfl⟩ (.cons ru .nil), ⟨_, hT2, rfl, _, rfl⟩⟩
    have I1 : Inv X pins σ (upd H s.heap.objs.size (.tup [.int (((i + 1 : Nat)) : Int), x])) { s with heap := h'', toks := s.toks + 1 } :=
      I.turnedNew (ch := [e, it]) (fun b ob hb q => (sb.2 b (fun z => hb (by simp [z]))).trans (hk b ob (fun z => hb (by simp [z])) (fun z => hb (by simp [z])) q)) hf (Nat.le_refl _) new
    refine ⟨.ref s.heap.objs.size, _, I1, rfl, ⟨_, x, rfl, I.hok.fresh (Nat.le_refl _), rfl, fun ys hy => by rw [I.list_inj hy hq]; exact hx⟩, ⟨⟨u, ?_⟩, hit'.at fun o q => (sb.2 it (Ne.symm hne)).trans q, hne⟩, fun b hb => ?_⟩
    · have e1 : ((i + 1 + 1 : Nat) : Int) = ((i + 1 : Nat) : Int) + 1 := by omega
      rw [e1]; exact he'
    · have hb' : b < s.heap.objs.size := by
        have e' : b = e ∨ b = it := by simpa using hb
        rcases e' with z | z
        · rw [z]; exact hel
        · rw [z]; exact hil
      rw [upd_ne (Nat.ne_of_lt hb')]
      exact (hf b hb).1
  done := by
    intro X hP hw hK hc i pins s σ H E I hf st hg
    subst hP hw hK
    obtain ⟨⟨old, he⟩, hit, hne⟩ := st
    obtain ⟨xs, hq, hx⟩ := hg
    obtain ⟨its, rv, p, hz⟩ := I.list hq
    obtain ⟨f0, f1, f2, f3, f4, f5⟩ := hf it (by simp)
    have hl := rv.length
    exact nextK_end (I.ok.hd hc) he hit p.isList (by simp; omega) fun h' eb => ⟨rfl, I.turned (t' := s.toks) (fun b o hb q => eb b o hb q) f0 f1 f3 f4 f5⟩
  self := fun A i s Q E st h => let ⟨⟨_, he⟩, _⟩ := st; wpAny_pyIter_enum he h
noncomputable def iEnumS (K : PySem.W.Frag) (ta : TA) (tk : TA) : TI := fun σ H R => ta σ H fun vs H1 => tk σ H1 fun zs H2 => ∃ a xs, vs = [.ref a] ∧ zs = [.int 1] ∧ SqL K H2 a xs ∧ R (IteS K a) H2
theorem callTyKw {M : Model} {A : Around} {E : Value → Shared → Prop} {s : Shared} {pos : Pos} {T : String} {args : List (Bool × Sem Value)} {kws : List (Option Str × Sem Value)} {Q : Value → Shared → Prop}
    (hplain : (args.any (·.1) || kws.any (·.1.isNone)) = false)
    (h : wpAny M A (evalArgs (.type T) true args kws) (fun a s1 => wpAny M A (call (.type T) a.pos a.kw) Q E s1) E s) : wpAny M A (callWith pos (.type T) [] args kws) Q E s := by
  unfold callWith
  refine wpAny_bind (wpAny_holding (wpAny_mono h (fun a s1 h1 => wpAny_bind (wpAny_standAt ?_)) fun _ _ x => x))
  simp only [hplain]
  refine wpAny_bind (wpAny_pure ?_)
  exact wpAny_bind (wpAny_mono h1 (fun r s2 hr => wpAny_bind (wpAny_holding (wpAny_point (wpAny_pure hr)))) fun _ _ x => x)
theorem evalArgs_kwB' {M : Model} {A : Around} {E : Value → Shared → Prop} {s : Shared} {f : Value} {e : Expr} {env : Env} {pos : Pos} {kws : List (Option Str × Sem Value)} {Q : Args → Shared → Prop} (hall : kws.all (·.1.isSome) = true) (hs : starEach [e] env = [(false, eval e env)])
    (h : wpAny M A (spliced (backTo pos (starEach [e] env))) (fun vs s1 => wpAny M A (evalAll (kws.map (·.2))) (fun ks s2 => Q ⟨vs, (kws.filterMap (·.1)).zip ks⟩ s2) E s1) E s) :
    wpAny M A (evalArgs f true (backTo pos (starEach [e] env)) kws) Q E s := by
  rw [hs] at h ⊢
  exact evalArgs_kwB hall h
theorem pi_enumS {X : Cx} {K : PySem.W.Frag} {e e2 : Expr} {ta tk : TA} {p pos tpos kpos : Pos} {elts : List Expr} {kk : Nat} (hK : X.K = K) (hg : Gl X "enumerate") (hm : X.mg "enumerate" = none) (ha : PA X [e] ta) (hkw : PK X [⟨some "start", e2, kpos⟩] tk) (hs : starEach [e] X.env = [(false, eval e X.env)] := by rfl)
    (hks : (backToKw pos (keywordEach [⟨some "start", e2, kpos⟩] X.env)).filterMap (·.1) = [("start" : Str)] := by rfl) (hall : (backToKw pos (keywordEach [⟨some "start", e2, kpos⟩] X.env)).all (·.1.isSome) = true := by rfl)
    (hpl : ((backTo pos (starEach [e] X.env)).any (·.1) || (backToKw pos (keywordEach [⟨some "start", e2, kpos⟩] X.env)).any (·.1.isNone)) = false := by rfl) :
    PI X (.Tuple elts kk tpos) (.Call (.Name "enumerate" p) [e] [⟨some "start", e2, kpos⟩] pos) (iEnumS K ta tk) := by
  subst hK
  intro pins s σ H R I h
  refine wpAny_Call_Name_kw (ld_blt I hg hm boot_enumerate ?_)
  refine callTyKw hpl (evalArgs_kwB' hall hs (thn (ha pos pins s σ H _ I h) fun us s1 ⟨vs, H1, I1, r1, q1⟩ => thn (hkw pos pins s1 σ H1 _ I1 q1) fun ws s2 ⟨zs, H2, I2, r2, q2⟩ => ?_))
  rw [hks]
  obtain ⟨a, xs, ex, ez, hq, q⟩ := q2
  subst ex ez
  cases r1 with
  | cons r rr =>
    cases rr
    cases r
    cases r2 with
    | cons r' rr' =>
      cases rr'
      obtain ⟨t, rfl⟩ := r'
      obtain ⟨its, rv, p', hz⟩ := I2.list hq
      show wpAny _ _ (call (.type "enumerate") [.ref a] [("start", .int 1 t)]) _ _ _
      refine call_enumS p'.isList fun h' he hit hsz hk => wpAny_pyIter_enum he ?_
      have I3 : Inv X pins σ H2 { s2 with heap := h' } := I2.kept (t' := s2.toks) hk
      refine ⟨s2.heap.objs.size + 1, [s2.heap.objs.size + 1, s2.heap.objs.size], _, _, H2, rfl, I3, turn_enumS a (s2.heap.objs.size + 1) s2.heap.objs.size, ⟨⟨.none, he⟩, hit, Nat.succ_ne_self _⟩, fun b hb => ?_, q⟩
      have e' : b = s2.heap.objs.size + 1 ∨ b = s2.heap.objs.size := by simpa using hb
      have hle : s2.heap.objs.size ≤ b := by
        rcases e' with z | z
        · rw [z]; exact Nat.le_add_right _ _
        · rw [z]; exact Nat.le_refl _
      exact I2.fpOk hle (I2.hok.fresh hle)
end L2
namespace L2
open PySem PySem.Spec PyProof.Rows
section
variable {X : Cx} {K : PySem.W.Frag}
theorem pi_enumK {e : Expr} {ta : TA} {p pos tpos : Pos} {elts : List Expr} {kk : Nat} (h : X.K = K) (hg : Gl X "enumerate") (hm : X.mg "enumerate" = none) (ha : PA X [e] ta) (hs : starEach [e] X.env = [(false, eval e X.env)] := by rfl) :
    PI X (.Tuple elts kk tpos) (.Call (.Name "enumerate" p) [e] [] pos) (iEnum K ta) := h ▸ pi_enum hg hm ha hs
theorem pi_zipK {e e2 : Expr} {ta : TA} {p pos tpos : Pos} {elts : List Expr} {kk : Nat} (h : X.K = K) (hg : Gl X "zip") (hm : X.mg "zip" = none) (ha : PA X [e, e2] ta)
    (hs : starEach [e, e2] X.env = (false, eval e X.env) :: starEach [e2] X.env := by rfl) (hpl : (backTo pos (starEach [e2] X.env)).any (·.1) = false := by rfl) :
    PI X (.Tuple elts kk tpos) (.Call (.Name "zip" p) [e, e2] [] pos) (iZip K ta) := h ▸ pi_zip hg hm ha hs hpl
noncomputable def HasMk (P : Program) (w : World) (K : PySem.W.Frag) (mg : Str → Option Value) (base : Heap) (k : Nat) (x : Str) (C : Addr) (ps : List Str) (sp : Sp) : Prop := mg x = some (.ref C) ∧ ∃ fI fd, Mk K C fI ∧ Binds K fd ps [] ∧ FnOk P w K mg base CX0 k fI fd ps sp
theorem pe_mk {k : Nat} {x : Str} {C : Addr} {ps : List Str} {sp : Sp} {e : Expr} {es : List Expr} {t : TA} {p pos : Pos} (h : HasMk X.prog X.w X.K X.mg X.base k x C ps sp) (hr : Room (k + 1) X.A) (ha : PA X (e :: es) t) (hg : Gl X x := by rfl) (hdb : (x == ("__debug__" : Str)) = false := by decide)
    (he : starEach (e :: es) X.env = (false, eval e X.env) :: starEach es X.env := by rfl) (hpl : (backTo pos (starEach es X.env)).any (·.1) = false := by rfl) : PE X (.Call (.Name x p) (e :: es) [] pos) (tMake C sp [] E0 t) := by
  obtain ⟨hm, fI, fd, M, hb, F⟩ := h
  exact pe_make M F hr hg hm hb .nil pass0 ha hdb he hpl
end
theorem sIx_neg1 (n d : Nat) : HT.sIx n d (some (-1)) = n - 1 := by
  have := HT.clip_eq (-1) n d
  rw [if_pos (by decide)] at this
  omega
theorem cut_dropLast (xs : List V) : cutV xs none (some (-1)) = xs.dropLast := by
  unfold cutV
  rw [sIx_neg1, HT.sIx_none, List.drop_zero, List.dropLast_eq_take]
  rfl
theorem cut_range (xs : List V) (i j : Nat) (hj : j ≤ xs.length) (hi : i ≤ xs.length) : cutV xs (some (i : Int)) (some (j : Int)) = (xs.drop i).take (j - i) := by
  unfold cutV
  rw [HT.sIx_nat, HT.sIx_nat, Nat.min_eq_left hj, Nat.min_eq_left hi]
noncomputable def tIfE (t : TT) (ta tb : TE) : TE := fun σ H Q => t σ H fun c H1 => ∃ va vb, (ta σ H1 fun v H2 => v = va ∧ H2 = H1) ∧ (tb σ H1 fun v H2 => v = vb ∧ H2 = H1) ∧ Q (if c = true then va else vb) H1
theorem pe_ifE {X : Cx} {c a b : Expr} {pos : Pos} {tA : TT} {ta tb : TE} (hc : PT X c tA) (ha : PE X a ta) (hb : PE X b tb) : PE X (.IfExp c a b pos) (tIfE tA ta tb) := by
  intro pins s σ H Q I h
  refine wpAny_IfExp (thn (hc pins s σ H _ I h) fun d s1 ⟨H1, I1, va, vb, q1, q2, q⟩ => ?_)
  cases d with
  | true => exact thn (ha pins s1 σ H1 _ I1 q1) fun u s2 ⟨v, H2, I2, r, e1, e2⟩ => ⟨v, H2, I2, r, by subst e1 e2; exact q⟩
  | false => exact thn (hb pins s1 σ H1 _ I1 q2) fun u s2 ⟨v, H2, I2, r, e1, e2⟩ => ⟨v, H2, I2, r, by subst e1 e2; exact q⟩
noncomputable def tIfV (t : TT) (ta tb : TE) : TE := fun σ H Q => t σ H fun c H1 => ∃ v, (if c = true then ta σ H1 (fun u H' => u = v ∧ H' = H1) else tb σ H1 (fun u H' => u = v ∧ H' = H1)) ∧ Q v H1
theorem pe_ifV {X : Cx} {c a b : Expr} {pos : Pos} {tA : TT} {ta tb : TE} (hc : PT X c tA) (ha : PE X a ta) (hb : PE X b tb) : PE X (.IfExp c a b pos) (tIfV tA ta tb) := by
  intro pins s σ H Q I h
  refine wpAny_IfExp (thn (hc pins s σ H _ I h) fun d s1 ⟨H1, I1, v, q1, q⟩ => ?_)
  cases d with
  | true => exact thn (ha pins s1 σ H1 _ I1 q1) fun u s2 ⟨v', H2, I2, r, e1, e2⟩ => ⟨v', H2, I2, r, by subst e1 e2; exact q⟩
  | false => exact thn (hb pins s1 σ H1 _ I1 q1) fun u s2 ⟨v', H2, I2, r, e1, e2⟩ => ⟨v', H2, I2, r, by subst e1 e2; exact q⟩
theorem seq_cut {t u : TS} {D : Ends} {σ : St} {H : Hp} (M : St → Hp → Prop) (h1 : ∀ NX : St → Hp → Prop, (∀ σ' H', M σ' H' → NX σ' H') → t { D with nx := NX } σ H) (h2 : ∀ σ' H', M σ' H' → u D σ' H') : tSeq t u D σ H := h1 _ h2
noncomputable abbrev gTwo (K : PySem.W.Frag) (p q : Nat) : TG := gTup K 2 (gCons (gName p) (gCons (gName q) gNil))
theorem gTwo_of {K : PySem.W.Frag} {p q : Nat} {T : Addr} {x y : V} {σ : St} {H : Hp} {Q : St → Hp → Prop} (hT : SqT K H T [x, y]) (h : Q ((σ.set p (some x)).set q (some y)) H) : gTwo K p q (.ref T) σ H Q :=
  ⟨T, [x, y], rfl, hT, rfl, x, [y], rfl, y, [], rfl, rfl, h⟩
section
variable {K : PySem.W.Frag} {a b : Addr} {xs ys : List V} {p q : Nat} {tb : TS} {D : Ends} {σ : St} {H : Hp}
theorem for_enum2 (Pv : Nat → St → Hp → Prop) (h0 : Pv 0 σ H) (hl : ∀ i σ H, i ≤ xs.length → Pv i σ H → SqL K H a xs)
    (hs : ∀ (i : Nat) x σ H H', xs[i]? = some x → Pv i σ H → Same H H' → tb { D with nx := Pv (i + 1), ct := Pv (i + 1), bk := D.nx } ((σ.set p (some (.int (i : Nat)))).set q (some x)) H') (hd : ∀ σ H, Pv xs.length σ H → D.nx σ H) :
    ∃ W : Nat → Nat → St → Hp → Prop, (∃ m, W 0 m σ H) ∧ ∀ i m σ H, W i m σ H →
      ((Ite K a).stop i H ∧ D.nx σ H) ∨ ((Ite K a).go i H ∧ ∃ N : St → Hp → Prop, (∀ σ' H', N σ' H' → ∃ m', m' < m ∧ W (i + 1) m' σ' H') ∧ ∀ x H', (Ite K a).yld i H x H' → gTwo K p q x σ H' fun σ2 H2 => tb { D with nx := N, ct := N, bk := D.nx } σ2 H2) := by
  refine ⟨fun i m σ H => m = xs.length - i ∧ i ≤ xs.length ∧ Pv i σ H, ⟨xs.length, by simp, Nat.zero_le _, h0⟩, ?_⟩
  rintro i m σ H ⟨rfl, hi, pv⟩
  have sq := hl i σ H hi pv
  by_cases hlt : i < xs.length
  · refine .inr ⟨⟨xs, xs[i], sq, by simp [hlt]⟩, Pv (i + 1), fun σ' H' p' => ⟨xs.length - (i + 1), by omega, rfl, hlt, p'⟩, fun v H' y => ?_⟩
    obtain ⟨T, x, rfl, hT, rfl, hx⟩ := y
    exact gTwo_of (SqT.of upd_same) (hs i x σ H _ (hx xs sq) pv (Same.add hT))
  · have e : i = xs.length := by omega
    subst e
    exact .inl ⟨⟨xs, sq, Nat.le_refl _⟩, hd σ H pv⟩
theorem for_enumS2 (Pv : Nat → St → Hp → Prop) (h0 : Pv 0 σ H) (hl : ∀ i σ H, i ≤ xs.length → Pv i σ H → SqL K H a xs)
    (hs : ∀ (i : Nat) x σ H H', xs[i]? = some x → Pv i σ H → Same H H' → tb { D with nx := Pv (i + 1), ct := Pv (i + 1), bk := D.nx } ((σ.set p (some (.int ((i + 1 : Nat) : Int)))).set q (some x)) H') (hd : ∀ σ H, Pv xs.length σ H → D.nx σ H) :
    ∃ W : Nat → Nat → St → Hp → Prop, (∃ m, W 0 m σ H) ∧ ∀ i m σ H, W i m σ H →
      ((IteS K a).stop i H ∧ D.nx σ H) ∨ ((IteS K a).go i H ∧ ∃ N : St → Hp → Prop, (∀ σ' H', N σ' H' → ∃ m', m' < m ∧ W (i + 1) m' σ' H') ∧ ∀ x H', (IteS K a).yld i H x H' → gTwo K p q x σ H' fun σ2 H2 => tb { D with nx := N, ct := N, bk := D.nx } σ2 H2) := by
  refine ⟨fun i m σ H => m = xs.length - i ∧ i ≤ xs.length ∧ Pv i σ H, ⟨xs.length, by simp, Nat.zero_le _, h0⟩, ?_⟩
  rintro i m σ H ⟨rfl, hi, pv⟩
  have sq := hl i σ H hi pv
  by_cases hlt : i < xs.length
  · refine .inr ⟨⟨xs, xs[i], sq, by simp [hlt]⟩, Pv (i + 1), fun σ' H' p' => ⟨xs.length - (i + 1), by omega, rfl, hlt, p'⟩, fun v H' y => ?_⟩
    obtain ⟨T, x, rfl, hT, rfl, hx⟩ := y
    exact gTwo_of (SqT.of upd_same) (hs i x σ H _ (hx xs sq) pv (Same.add hT))
  · have e : i = xs.length := by omega
    subst e
    exact .inl ⟨⟨xs, sq, Nat.le_refl _⟩, hd σ H pv⟩
theorem for_zip2 (Pv : Nat → St → Hp → Prop) (he : xs.length = ys.length) (h0 : Pv 0 σ H) (hl : ∀ i σ H, i ≤ xs.length → Pv i σ H → SqL K H a xs ∧ SqL K H b ys)
    (hs : ∀ (i : Nat) x y σ H H', xs[i]? = some x → ys[i]? = some y → Pv i σ H → Same H H' → tb { D with nx := Pv (i + 1), ct := Pv (i + 1), bk := D.nx } ((σ.set p (some x)).set q (some y)) H') (hd : ∀ σ H, Pv xs.length σ H → D.nx σ H) :
    ∃ W : Nat → Nat → St → Hp → Prop, (∃ m, W 0 m σ H) ∧ ∀ i m σ H, W i m σ H →
      ((Itz K a b).stop i H ∧ D.nx σ H) ∨ ((Itz K a b).go i H ∧ ∃ N : St → Hp → Prop, (∀ σ' H', N σ' H' → ∃ m', m' < m ∧ W (i + 1) m' σ' H') ∧ ∀ x H', (Itz K a b).yld i H x H' → gTwo K p q x σ H' fun σ2 H2 => tb { D with nx := N, ct := N, bk := D.nx } σ2 H2) := by
  refine ⟨fun i m σ H => m = xs.length - i ∧ i ≤ xs.length ∧ Pv i σ H, ⟨xs.length, by simp, Nat.zero_le _, h0⟩, ?_⟩
  rintro i m σ H ⟨rfl, hi, pv⟩
  obtain ⟨sq, sr⟩ := hl i σ H hi pv
  by_cases hlt : i < xs.length
  · refine .inr ⟨⟨xs, ys, xs[i], ys[i], sq, sr, by simp [hlt], by simp [he ▸ hlt]⟩, Pv (i + 1), fun σ' H' p' => ⟨xs.length - (i + 1), by omega, rfl, hlt, p'⟩, fun v H' y => ?_⟩
    obtain ⟨T, x, y, rfl, hT, rfl, hx, hy⟩ := y
    exact gTwo_of (SqT.of upd_same) (hs i x y σ H _ (hx xs sq) (hy ys sr) pv (Same.add hT))
  · have e : i = xs.length := by omega
    subst e
    exact .inl ⟨⟨xs, ys, sq, sr, .inl (Nat.le_refl _)⟩, hd σ H pv⟩
theorem for_pairs2 {as : List Addr} (Pv : Nat → St → Hp → Prop) (prs : List (V × V)) (hp : as.length = prs.length) (h0 : Pv 0 σ H) (hl : ∀ i σ H, i ≤ as.length → Pv i σ H → SqL K H a (as.map V.ref) ∧ ∀ (j : Nat) c r, as[j]? = some c → prs[j]? = some r → SqT K H c [r.1, r.2])
    (hs : ∀ (i : Nat) r σ H, prs[i]? = some r → Pv i σ H → tb { D with nx := Pv (i + 1), ct := Pv (i + 1), bk := D.nx } ((σ.set p (some r.1)).set q (some r.2)) H) (hd : ∀ σ H, Pv as.length σ H → D.nx σ H) :
    ∃ W : Nat → Nat → St → Hp → Prop, (∃ m, W 0 m σ H) ∧ ∀ i m σ H, W i m σ H →
      ((Itl K a).stop i H ∧ D.nx σ H) ∨ ((Itl K a).go i H ∧ ∃ N : St → Hp → Prop, (∀ σ' H', N σ' H' → ∃ m', m' < m ∧ W (i + 1) m' σ' H') ∧ ∀ x H', (Itl K a).yld i H x H' → gTwo K p q x σ H' fun σ2 H2 => tb { D with nx := N, ct := N, bk := D.nx } σ2 H2) := by
  refine for_list (xs := as.map V.ref) Pv h0 (fun i σ H hi pv => (hl i σ H (by simpa using hi) pv).1) (fun i x σ H hx pv => ?_) (fun σ H pv => hd σ H (by simpa using pv))
  obtain ⟨c, rfl, hc⟩ := map_at hx
  have hi : i < as.length := (List.getElem?_eq_some_iff.mp hc).1
  have hr : prs[i]? = some prs[i] := List.getElem?_eq_getElem (by omega)
  exact gTwo_of ((hl i σ H (Nat.le_of_lt hi) pv).2 i c _ hc hr) (hs i _ σ H hr pv)
end
end L2
namespace L2
open PySem PySem.Spec PyProof.Rows PySem.W
theorem lri_no_len : typeLookup (.type "list_reverseiterator") "__len__" = pure none := by rw [typeLookup_type, builtinLookup_eq_fast]; kernel_rfl
theorem lri_hint : typeLookup (.type "list_reverseiterator") "__length_hint__" = pure (some (.builtin "list_reverseiterator.__length_hint__")) := by rw [typeLookup_type, builtinLookup_eq_fast]; kernel_rfl
section
variable {prog : Program} {w : World} {A : Around} {E : Value → Shared → Prop} {s : Shared} {r l : Addr} {i : Int}
theorem hint_lri {Q : Bool → Shared → Prop} (hT : s.TypeIs (.ref r) "list_reverseiterator") (h : Q false s) : wpAny (model prog w) A (Builtin.List.listLengthHint (.ref r)) Q E s := by
  unfold Builtin.List.listLengthHint
  refine wpAny_bind (wpAny_specialOf hT lri_no_len ?_)
  show wpAny _ _ (specialOf (Value.ref r) (Str.ofString "__length_hint__") >>= _) _ _ _
  refine wpAny_bind (wpAny_specialOf hT lri_hint ?_)
  generalize hid : ("list_reverseiterator.__length_hint__" : String) = id0
  wp_delta
  rw [show splitId id0 = some ("list_reverseiterator", "__length_hint__") from by subst hid; decide +kernel]
  subst hid
  refine wpAny_bind (wpAny_isInstance (T := "list_reverseiterator") (b := true) hT (by rw [isSubtype_type]; kernel_rfl) ?_)
  refine wpAny_ite_split (fun hab => absurd hab (by decide)) (fun _ => ?_)
  refine wpAny_ite_split (fun _ => ?_) (fun hab => absurd (by decide +kernel) hab)
  refine wpAny_ite_split (fun hab => absurd hab (by decide +kernel)) (fun _ => ?_)
  exact wpAny_pure h
theorem lrev_extend {R : Result → Shared → Prop} {items : Array Value} (hh : A.handled = none) (hrl : l ≠ r) (hr : s.heap.IsRevIter r l ((items.size : Int) - 1)) (hl : s.heap.IsList l items) (S : Addr) (hSr : S ≠ r) (hSd : S ≠ l) (res : Value) (c₀ : Nat) (hS : s.heap.get? S = some { cls := .type "list", data := .seq #[] c₀ })
    (hR : ∀ h' tk acc' c', (∀ b o, b ≠ S → b ≠ r → s.heap.get? b = some o → h'.get? b = some o) → h'.get? S = some { cls := .type "list", dict := none, data := .seq acc' c', slots := #[] } → ItemsOf (fun i v => items[items.size - 1 - i]? = some v) acc' items.size → R (.ok (.ret res)) { s with heap := h', toks := tk }) (hn : items.size ≤ sizeLine) :
    wpAny (model prog w) A.in1 (Builtin.List.listExtendWith (.ref S) (.ref r) res)
      (fun fin s' => match fin with | .done f => R (.ok f) s' | .again c' => c'.quiet = true ∧ codeAny (model prog w) A c' R s') (fun e s' => R (.error e) s') s := by
  have hSf : S ∉ [r, l] := by simp only [List.mem_cons, List.not_mem_nil, or_false, not_or]; exact ⟨hSr, hSd⟩
  have W := Walks.listRev (prog := prog) (w := w) (A := A.in1) hh r l hrl items
  have st : 0 ≤ items.size ∧ s.heap.IsRevIter r l ((items.size : Int) - 1 - ((0 : Nat) : Int)) ∧ s.heap.IsList l items := ⟨Nat.zero_le _, by simpa using hr, hl⟩
  unfold Builtin.List.listExtendWith
  refine wpAny_bind (wpAny_typeOf (T := "list_reverseiterator") hr.typeIs ?_)
  have h1 : Builtin.List.listSameRef (.ref S) (.ref r) = false := by simp [Builtin.List.listSameRef, hSr]
  have h2 : (Value.type "list_reverseiterator" == Value.type "list") = false := by decide
  have h3 : (Value.type "list_reverseiterator" == Value.type "tuple") = false := by decide
  simp only [h1, h2, h3, Bool.or_false, Bool.false_eq_true, if_false]
  refine wpAny_bind (W.self 0 s _ _ st ?_)
  refine wpAny_bind (wpAny_holding (hint_lri hr.typeIs ?_))
  refine wpAny_ite_split (fun hab => absurd hab (by decide +kernel)) (fun _ => wpAny_pure ⟨plainId_quiet PySem.F.plain_extend_loop _, ?_⟩)
  refine codeAny_extend_loopS W.toS hn S hSf res items.size 0 _ #[] c₀ rfl (Nat.zero_le _) st hS (ItemsOf.nil _) fun s' acc' c' hm hS' hacc => ?_
  rw [Moved.eq_with hm]
  refine hR s'.heap s'.toks acc' c' (fun b o hb hb2 e => hm.heap b o (fun hmem => ?_) e) hS' hacc
  rcases List.mem_cons.mp hmem with e' | hmem
  · exact hb e'
  · exact hb2 (List.mem_singleton.mp hmem)
theorem lrev_call {Q : Value → Shared → Prop} {items : Array Value} (hh : A.handled = none) (hrl : l ≠ r) (hr : s.heap.IsRevIter r l ((items.size : Int) - 1)) (hl : s.heap.IsList l items) (hn : items.size ≤ sizeLine)
    (hQ : ∀ h' tk acc' c', (∀ b o, b ≠ r → s.heap.get? b = some o → h'.get? b = some o) → h'.get? s.heap.objs.size = some { cls := .type "list", dict := none, data := .seq acc' c', slots := #[] } → ItemsOf (fun i v => items[items.size - 1 - i]? = some v) acc' items.size → Q (.ref s.heap.objs.size) { s with heap := h', toks := tk }) :
    wpAny (model prog w) A (call (.type "list") [.ref r]) Q E s := by
  refine callType_codes (Q₁ := fun obj s₁ => obj = .ref s.heap.objs.size ∧ s₁ = { s with heap := s.heap.push { cls := .type "list", data := .seq #[] } }) PySem.F.called_list (PySem.F.typeCall_list_1 _) PySem.F.entry_list_init
    (code_list_new _ ⟨rfl, rfl⟩) fun obj s₁ h₁ => ?_
  obtain ⟨rfl, rfl⟩ := h₁
  have hS : (s.heap.push { cls := .type "list", data := .seq #[] }).get? s.heap.objs.size = some { cls := .type "list", data := .seq #[] } := Heap.get?_push_size _ rfl
  obtain ⟨o1, ho1, _⟩ := id hr
  obtain ⟨o2, ho2, hc2, n2, hd2⟩ := id hl
  have hSr : s.heap.objs.size ≠ r := Nat.ne_of_gt (Heap.lt_size ho1)
  have hSl : s.heap.objs.size ≠ l := Nat.ne_of_gt (Heap.lt_size ho2)
  refine ⟨⟨_, hS, rfl⟩, PySem.F.args_list_init_2 _ _, ?_⟩
  generalize hS0 : s.heap.objs.size = S at *
  show wpAny _ _ (do let old ← Builtin.List.listItems (.ref S); Builtin.List.listUpdate (.ref S) (fun _ => #[]); letGo old.toList.reverse; Builtin.List.listExtendWith (.ref S) (.ref r) .none) _ _ _
  refine wpAny_bind ?_
  unfold Builtin.List.listItems
  refine wpAny_bind (wpAny_seqItems hS rfl (wpAny_pure ?_))
  show wpAny _ _ (updateSeq S (fun _ => #[]) >>= fun _ => letGo (#[] : Array Value).toList.reverse >>= fun _ => Builtin.List.listExtendWith (.ref S) (.ref r) .none) _ _ _
  refine wpAny_bind (wpAny_updateSeq hS rfl ?_)
  have hS₂ := Heap.get?_update_self (Obj.mapSeq (fun _ => (#[] : Array Value))) hS rfl
  have oth : ∀ b o, b ≠ S → s.heap.get? b = some o → ((s.heap.push { cls := .type "list", data := .seq #[] }).update S (Obj.mapSeq (fun _ => (#[] : Array Value)))).get? b = some o :=
    fun b o hb e => (Heap.get?_update_other _ _ (Ne.symm hb)).trans (Heap.get?_push_of_some _ e)
  refine wpAny_bind (wpAny_letGo ?_)
  refine lrev_extend (A := A.in1) hh hrl (hr.at fun o e => oth r o hSr.symm e) ⟨o2, oth l _ hSl.symm ho2, hc2, n2, hd2⟩ S hSr hSl .none _ hS₂ (fun h' tk acc' c' hk hS' hacc => ?_) hn
  exact ⟨rfl, hQ h' tk acc' c' (fun b o hb e => hk b o (by rw [← hS0]; exact Nat.ne_of_lt (Heap.lt_size e)) hb (oth b o (by rw [← hS0]; exact Nat.ne_of_lt (Heap.lt_size e)) e)) hS' hacc⟩
end
noncomputable def tLRev (K : PySem.W.Frag) (ta : TA) : TE := fun σ H Q => ta σ H fun vs H1 => ∃ (a : Addr) (xs : List V), vs = [.ref a] ∧ SqL K H1 a xs ∧ ∀ D, H1 D = none → Q (.ref D) (upd H1 D (.lst xs.reverse))
noncomputable def tLRng (ta : TA) : TE := fun σ H Q => ta σ H fun vs H1 => ∃ n : Nat, vs = [.int (n : Nat)] ∧ n ≤ 100000 ∧ ∀ D, H1 D = none → Q (.ref D) (upd H1 D (.lst ((List.range n).map fun (k : Nat) => V.int k)))
theorem boot_listR : bootBuiltins "list" = some (.type "list") := by decide +kernel
section
variable {X : Cx}
theorem vals_get {xs : List V} {us : List Value} (hl : us.length = xs.length) (h : ∀ (j : Nat) u x, us[j]? = some u → xs[j]? = some x → RelV x u) : Vals xs us := by
  induction xs generalizing us with
  | nil => cases us with | nil => exact .nil | cons _ _ => simp at hl
  | cons x xs ih =>
    cases us with
    | nil => simp at hl
    | cons u us => exact .cons (h 0 u x rfl rfl) (ih (by simpa using hl) fun j u' x' hu hx => h (j + 1) u' x' hu hx)
theorem pe_listRev {e : Expr} {ta : TA} {p p2 pos pos2 : Pos} (hc : X.calm = true) (hgl : Gl X "list") (hml : X.mg "list" = none) (hg : Gl X "reversed") (hm : X.mg "reversed" = none) (ha : PA X [e] ta)
    (hs : starEach [e] X.env = [(false, eval e X.env)] := by rfl) (hs2 : starEach [Expr.Call (.Name "reversed" p2) [e] [] pos2] X.env = [(false, eval (.Call (.Name "reversed" p2) [e] [] pos2) X.env)] := by rfl) :
    PE X (.Call (.Name "list" p) [.Call (.Name "reversed" p2) [e] [] pos2] [] pos) (tLRev X.K ta) := by
  intro pins s σ H Q I h
  refine wpAny_Call_Name_kw (ld_blt I hgl hml boot_listR ?_)
  refine PyProof.Rows.callWith_type1 ?_ hs2 rfl
  rw [hs2]
  show wpAny _ _ (spliced ((false, eval (.Call (.Name "reversed" p2) [e] [] pos2) X.env) :: [])) _ _ s
  refine Calls.spliced_cons ?_
  refine wpAny_Call_Name_kw (ld_blt I hg hm boot_reversed5 (PyProof.Rows.callWith_type1 (thn (ha pos2 pins s σ H _ I h) fun us s1 ⟨vs, H1, I1, r1, q1⟩ => ?_) hs rfl))
  obtain ⟨a, xs, e, hq, q⟩ := q1
  subst e
  cases r1 with
  | cons r rr =>
    cases rr
    cases r
    obtain ⟨its, rv, p', hz⟩ := I1.list hq
    have hl := rv.length
    refine call_reversed_list p'.isList (Calls.spliced_nil ?_)
    have hlt : a < s1.heap.objs.size := by
      obtain ⟨o, ho, _⟩ := p'.isList
      exact Heap.lt_size ho
    refine lrev_call (I.ok.hd hc) (Nat.ne_of_lt hlt) (items := its.toArray) ⟨_, Heap.get?_push_size _ rfl, rfl, rfl⟩ ?_ (by rw [List.size_toArray]; omega) fun h' tk acc' c' kp hD hacc => ?_
    · obtain ⟨o, ho, x⟩ := p'.isList
      exact ⟨o, Heap.get?_push_of_some _ ho, x⟩
    · have kp' : ∀ b u, s1.heap.get? b = some u → h'.get? b = some u := fun b u hb => kp b u (Nat.ne_of_lt (Heap.lt_size hb)) (Heap.get?_push_of_some _ hb)
      have hsz : s1.heap.objs.size ≤ (s1.heap.push (revObj a ((its.toArray.size : Int) - 1))).objs.size := by rw [Heap.size_push]; omega
      refine ⟨.ref _, _, I1.laid (t' := tk) kp' hsz ?_, rfl, q _ (I1.hok.fresh hsz)⟩
      refine ⟨by rw [List.length_reverse]; exact hz, acc'.toList, c', ?_, by rw [Array.toArray_toList]; exact hD⟩
      rw [List.size_toArray] at hacc
      refine vals_get (by rw [Array.length_toList, hacc.1, List.length_reverse, hl]) fun j u x hu hx => ?_
      rw [Array.getElem?_toList] at hu
      have h1 := hacc.2 j u hu
      have hj : j < its.length := by
        have := (Array.getElem?_eq_some_iff.mp hu).1
        have h2 := hacc.1
        omega
      have h1 : its.toArray[its.length - 1 - j]? = some u := h1
      rw [List.getElem?_toArray] at h1
      rw [List.getElem?_reverse (by omega)] at hx
      have e2 : xs.length - 1 - j = its.length - 1 - j := by omega
      rw [e2] at hx
      obtain ⟨u', hu', ru⟩ := rv.get hx
      rw [h1] at hu'
      cases hu'
      exact ru
theorem pe_listRng {e : Expr} {ta : TA} {p p2 pos pos2 : Pos} (hc : X.calm = true) (hgl : Gl X "list") (hml : X.mg "list" = none) (hg : Gl X "range") (hm : X.mg "range" = none) (ha : PA X [e] ta)
    (hs : starEach [e] X.env = [(false, eval e X.env)] := by rfl) (hs2 : starEach [Expr.Call (.Name "range" p2) [e] [] pos2] X.env = [(false, eval (.Call (.Name "range" p2) [e] [] pos2) X.env)] := by rfl) :
    PE X (.Call (.Name "list" p) [.Call (.Name "range" p2) [e] [] pos2] [] pos) (tLRng ta) := by
  intro pins s σ H Q I h
  refine wpAny_Call_Name_kw (ld_blt I hgl hml boot_listR ?_)
  refine PyProof.Rows.callWith_type1 ?_ hs2 rfl
  rw [hs2]
  show wpAny _ _ (spliced ((false, eval (.Call (.Name "range" p2) [e] [] pos2) X.env) :: [])) _ _ s
  refine Calls.spliced_cons ?_
  refine wpAny_Call_Name_kw (ld_blt I hg hm boot_range (PyProof.Rows.callWith_type1 (thn (ha pos2 pins s σ H _ I h) fun us s1 ⟨vs, H1, I1, r1, q1⟩ => ?_) hs rfl))
  obtain ⟨n, e, hn, q⟩ := q1
  subst e
  cases r1 with
  | cons r rr =>
    cases rr
    obtain ⟨t, rfl⟩ := r
    refine call_range_1 (Calls.spliced_nil ?_)
    have hsize : Builtin.Range.rangeSize 0 (n : Int) 1 = (n : Int) := by
      rw [rangeSize_one]
      split <;> omega
    refine call_list_range (I.ok.hd hc) (IsRange.new ..) (n := n) (small_one (by omega) (by omega) (by omega) (by omega)) hsize (by omega) fun h' tk acc' c' kp hD hacc => ?_
    · have kp' : ∀ b u, s1.heap.get? b = some u → h'.get? b = some u := fun b u hb => kp b u (Heap.get?_push_of_some _ hb)
      have hsz : s1.heap.objs.size ≤ (s1.heap.push { cls := .type "range", data := .fields #[.int 0 s1.toks, .int (n : Int) t, .int 1 (s1.toks + 1)] }).objs.size := by rw [Heap.size_push]; omega
      refine ⟨.ref _, _, I1.laid (t' := tk) kp' hsz ?_, rfl, q _ (I1.hok.fresh hsz)⟩
      refine ⟨by rw [List.length_map, List.length_range, sizeLine_eq]; omega, acc'.toList, c', ?_, by rw [Array.toArray_toList]; exact hD⟩
      refine vals_get (by rw [Array.length_toList, hacc.1, List.length_map, List.length_range]) fun j u x hu hx => ?_
      rw [Array.getElem?_toList] at hu
      obtain ⟨t', rfl⟩ := hacc.2 j u hu
      have hj : j < n := by
        have := (Array.getElem?_eq_some_iff.mp hu).1
        have h2 := hacc.1
        omega
      rw [List.getElem?_map, List.getElem?_range hj] at hx
      cases hx
      exact ⟨t', by simp⟩
end
end L2
namespace L2
open PySem PySem.Spec PyProof.Rows
section
variable {X : Cx}
theorem pe_listRevK {K : PySem.W.Frag} {e : Expr} {ta : TA} {p p2 pos pos2 : Pos} (hK : X.K = K) (hc : X.calm = true) (hgl : Gl X "list") (hml : X.mg "list" = none) (hg : Gl X "reversed") (hm : X.mg "reversed" = none) (ha : PA X [e] ta)
    (hs : starEach [e] X.env = [(false, eval e X.env)] := by rfl) (hs2 : starEach [Expr.Call (.Name "reversed" p2) [e] [] pos2] X.env = [(false, eval (.Call (.Name "reversed" p2) [e] [] pos2) X.env)] := by rfl) :
    PE X (.Call (.Name "list" p) [.Call (.Name "reversed" p2) [e] [] pos2] [] pos) (tLRev K ta) := hK ▸ pe_listRev hc hgl hml hg hm ha hs hs2
theorem cr_maxK {K : PySem.W.Frag} (h : X.K = K) (hc : X.calm = true) : CallR X (.builtin "max") (rMax K) := h ▸ cr_max hc
theorem cr_minK {K : PySem.W.Frag} (h : X.K = K) (hc : X.calm = true) : CallR X (.builtin "min") (rMin K) := h ▸ cr_min hc
end
end L2
namespace Lf
open PySem L2
noncomputable def top (i : Nat) : Stmt := PySem.Challenge.pw_letterfall_s05_order.main.body.getD i (.Pass ⟨0, 0, 0, 0⟩)
noncomputable abbrev s_is_code_point : Stmt := top 5
noncomputable abbrev s_is_text : Stmt := top 6
noncomputable abbrev s_Refusal___init__ : Stmt := inClass (top 8) 0
noncomputable abbrev s_OutOfRange___init__ : Stmt := inClass (top 9) 0
noncomputable abbrev s_class_of : Stmt := top 14
noncomputable abbrev s_classes_of : Stmt := top 15
noncomputable abbrev s_Run___init__ : Stmt := inClass (top 19) 0
noncomputable abbrev s_paragraphs_of : Stmt := top 20
noncomputable abbrev s_sides_of : Stmt := top 21
noncomputable abbrev s_level_above : Stmt := top 22
noncomputable abbrev s_level_pushed : Stmt := top 23
noncomputable abbrev s_runs_of : Stmt := top 24
noncomputable abbrev s_marks_settled : Stmt := top 30
noncomputable abbrev s_digit_settled : Stmt := top 31
noncomputable abbrev s_digits_settled : Stmt := top 32
noncomputable abbrev s_neutrals_settled : Stmt := top 33
noncomputable abbrev s_run_levels : Stmt := top 34
noncomputable abbrev s_paragraph_levels : Stmt := top 35
noncomputable abbrev s_levels_of : Stmt := top 36
noncomputable abbrev s_turned_at : Stmt := top 38
noncomputable abbrev s_order_seen : Stmt := top 39
noncomputable abbrev s_text_seen : Stmt := top 40
noncomputable abbrev s_need_range : Stmt := top 43
noncomputable abbrev s_need_text : Stmt := top 44
noncomputable abbrev s_order : Stmt := top 45
structure Ad where
  R : Addr
  Run : Addr
structure Gs (w : World) (K : PySem.W.Frag) (mg : Str → Option Value) (ad : Ad) : Prop where
  f_is_code_point : HasFn K mg "is_code_point" s_is_code_point ["number"]
  f_is_text : HasFn K mg "is_text" s_is_text ["numbers"]
  f_class_of : HasFn K mg "class_of" s_class_of ["code"]
  f_classes_of : HasFn K mg "classes_of" s_classes_of ["text"]
  f_paragraphs_of : HasFn K mg "paragraphs_of" s_paragraphs_of ["classes"]
  f_sides_of : HasFn K mg "sides_of" s_sides_of ["classes"]
  f_level_above : HasFn K mg "level_above" s_level_above ["level", "odd"]
  f_level_pushed : HasFn K mg "level_pushed" s_level_pushed ["name", "level", "part_side"]
  f_runs_of : HasFn K mg "runs_of" s_runs_of ["classes", "side"]
  f_marks_settled : HasFn K mg "marks_settled" s_marks_settled ["names", "side"]
  f_digit_settled : HasFn K mg "digit_settled" s_digit_settled ["last"]
  f_digits_settled : HasFn K mg "digits_settled" s_digits_settled ["names", "side"]
  f_neutrals_settled : HasFn K mg "neutrals_settled" s_neutrals_settled ["names", "side"]
  f_run_levels : HasFn K mg "run_levels" s_run_levels ["names", "level"]
  f_paragraph_levels : HasFn K mg "paragraph_levels" s_paragraph_levels ["classes", "side"]
  f_levels_of : HasFn K mg "levels_of" s_levels_of ["text", "side"]
  f_turned_at : HasFn K mg "turned_at" s_turned_at ["places", "levels", "level"]
  f_order_seen : HasFn K mg "order_seen" s_order_seen ["levels"]
  f_text_seen : HasFn K mg "text_seen" s_text_seen ["text", "side"]
  f_need_range : HasFn K mg "need_range" s_need_range ["number", "least", "most"]
  f_need_text : HasFn K mg "need_text" s_need_text ["text"]
  f_order : HasFn K mg "order" s_order ["side", "text"]
  c_MOST_CODE_POINT : ∃ t, mg "MOST_CODE_POINT" = some (.int 1114111 t)
  c_FIRST_SURROGATE : ∃ t, mg "FIRST_SURROGATE" = some (.int 55296 t)
  c_LAST_SURROGATE : ∃ t, mg "LAST_SURROGATE" = some (.int 57343 t)
  c_MOST_CHARACTERS : ∃ t, mg "MOST_CHARACTERS" = some (.int 65536 t)
  c_ROWS : ∃ a, mg "ROWS" = some (.ref a) ∧ Tup2K K a [[.str "L", .int 65, .int 90], [.str "L", .int 97, .int 122], [.str "L", .int 170, .int 170], [.str "L", .int 181, .int 181], [.str "L", .int 186, .int 186], [.str "L", .int 192, .int 214], [.str "L", .int 216, .int 246], [.str "L", .int 248, .int 687], [.str "L", .int 880, .int 1423], [.str "L", .int 2304, .int 8191], [.str "L", .int 11264, .int 12287], [.str "L", .int 12293, .int 55295], [.str "L", .int 63744, .int 64255], [.str "L", .int 65536, .int 67583], [.str "L", .int 69632, .int 1114111], [.str "R", .int 1424, .int 1535], [.str "R", .int 1984, .int 2303], [.str "R", .int 64285, .int 64335], [.str "R", .int 67584, .int 69631], [.str "A", .int 1536, .int 1631], [.str "A", .int 1642, .int 1775], [.str "A", .int 1786, .int 1983], [.str "A", .int 64336, .int 65023], [.str "A", .int 65136, .int 65278], [.str "N", .int 48, .int 57], [.str "N", .int 1632, .int 1641], [.str "N", .int 1776, .int 1785], [.str "M", .int 768, .int 879], [.str "M", .int 1425, .int 1469], [.str "M", .int 1611, .int 1631], [.str "M", .int 8400, .int 8447], [.str "LI", .int 8294, .int 8294], [.str "RI", .int 8295, .int 8295], [.str "FI", .int 8296, .int 8296], [.str "PI", .int 8297, .int 8297], [.str "B", .int 10, .int 10]]
  c_STRONG : ∃ a, mg "STRONG" = some (.ref a) ∧ TupK K a [.str "L", .str "R", .str "A"]
  c_PUSHING : ∃ a, mg "PUSHING" = some (.ref a) ∧ TupK K a [.str "LI", .str "RI", .str "FI"]
  c_MOST_LEVEL : ∃ t, mg "MOST_LEVEL" = some (.int 60 t)
  c_WHOLE : ∃ t, mg "WHOLE" = some (.int (-1) t)
  c_AROUND_MARKS : ∃ a, mg "AROUND_MARKS" = some (.ref a) ∧ TupK K a [.str "LI", .str "RI", .str "FI", .str "PI"]
  c_NEUTRAL : ∃ a, mg "NEUTRAL" = some (.ref a) ∧ TupK K a [.str "O", .str "LI", .str "RI", .str "FI", .str "PI", .str "B"]
  c_HIGHER_ON_EVEN : ∃ a, mg "HIGHER_ON_EVEN" = some (.ref a) ∧ DctK w K a [(Sum.inr "L", .int 0), (Sum.inr "R", .int 1), (Sum.inr "N", .int 2), (Sum.inr "AN", .int 2)]
  c_HIGHER_ON_ODD : ∃ a, mg "HIGHER_ON_ODD" = some (.ref a) ∧ DctK w K a [(Sum.inr "L", .int 1), (Sum.inr "R", .int 0), (Sum.inr "N", .int 1), (Sum.inr "AN", .int 1)]
  c_MOST_SIDE : ∃ t, mg "MOST_SIDE" = some (.int 2 t)
  b_len : mg "len" = none
  b_all : mg "all" = none
  b_range : mg "range" = none
  b_max : mg "max" = none
  b_min : mg "min" = none
  b_list : mg "list" = none
  b_enumerate : mg "enumerate" = none
  b_zip : mg "zip" = none
  b_reversed : mg "reversed" = none
  k_Run : mg "Run" = some (.ref ad.Run) ∧ Cls K ad.Run ∧ (∃ fI fd, Mk K ad.Run fI ∧ Fun K "__init__" "Run.__init__" s_Run___init__ fI fd ∧ Binds K fd ["self", "level"] []) ∧ NoAttr K ad.Run "level" ∧ NoAttr K ad.Run "places"
  x_Refusal : mg "Refusal" = some (.ref ad.R) ∧ xcIn K ad.R = true ∧ ∃ fI fd, CMeth K ad.R "__init__" fI ∧ Fun K "__init__" "Refusal.__init__" s_Refusal___init__ fI fd ∧ Binds K fd ["self", "answer"] []
  x_OutOfRange : ∃ C fI fd, mg "OutOfRange" = some (.ref C) ∧ XMk K C fI ∧ Fun K "__init__" "OutOfRange.__init__" s_OutOfRange___init__ fI fd ∧ Binds K fd ["self"] [] ∧ XGet K C ad.R "answer" ∧ NoAttr K C "answer"
end Lf
namespace Lf
open PySem L2
section
variable {P : Program} {w : World} {K : PySem.W.Frag} {mg : Str → Option Value} {base : Heap} {ad : Ad}
noncomputable def isCP (n : Int) : Bool := if 55296 ≤ n ∧ n ≤ 57343 then false else decide (0 ≤ n) && decide (n ≤ 1114111)
noncomputable def spIsCP : Sp := fun vs H Q _ => ∃ n, vs = [.int n] ∧ Q (.bl (isCP n)) H
theorem sc_is_code_point : FnScope ["number"] ["number"] (defScope s_is_code_point) := ⟨rfl, rfl, rfl, by decide +kernel, rfl, by decide +kernel, by decide +kernel⟩
theorem ok_is_code_point (G : Gs w K mg ad) : HasOk P w K mg base CX0 1 "is_code_point" ["number"] spIsCP := by
  refine G.f_is_code_point.ok sc_is_code_point (fun vs H Q E h => ?_) (fun f cdv A outer s H vs Q E hr h => ?_)
  · obtain ⟨n, rfl, _⟩ := h
    rfl
  · obtain ⟨n, rfl, h⟩ := h
    skip
    refine ⟨_, (pss_cons (ps_if (pt_chain op_le op_le (pe_gi G.c_FIRST_SURROGATE) (pv 0) (pe_gi G.c_LAST_SURROGATE)) (pss_one (ps_ret pe_bl)) pss_nil)
      (pss_one (ps_ret (pe_chain op_le op_le pe_int (pv 0) (pe_gi G.c_MOST_CODE_POINT))))), ?_⟩
    simp only [L2.start, List.map_cons, List.map_nil, List.length_cons, List.length_nil, List.replicate, List.cons_append, List.nil_append, List.append_nil, List.getElem?_cons_zero, List.getElem?_cons_succ, List.set_cons_zero, List.set_cons_succ, wipe, tSeq, tIfS, tTest, tB, tChain, tRet, tRetN, tNext, tC, tVar, tDrop, tAsg, gName, tOp, tUn, rI0, rI, rU, tAnd, tOr, tNot, tAndV, tOrV, tNotV, tIf, tIfE, tIfV, tNil, tCons, tCB, tCall, tIsN, tNotN, t2I, tAug, ipI, tYes, tRaiseX, tTry, tLst, tTup, tDNewK, tDGet, tDIn, tDNotIn, sDPut, tBM, rAppend, rExtend, rPop, rIxL, rIxT, rIn, rEq, rNe, rCat, iList, iTup, iRng1, iRng2, iEnum, iEnumS, iZip, tKGet, tKGet1, tKGet2, tDGet1, tDGet2, tBM0, tFld, sFld, tSl, tNoPart, tPart, rSlL, gSub, rSetL, rRep, tMake, gTup, gCons, gNil, cxOf_K, List.map_append, List.length_map, V.int.injEq, V.bl.injEq, V.str.injEq, V.ref.injEq, Option.some.injEq, List.cons.injEq, exists_eq_left', exists_eq_left, exists_eq_right, exists_and_left, and_assoc, and_true, true_and, Bool.false_eq_true, if_false, if_true, reduceIte, decide_eq_true_eq, exists_const, exists_eq, exists_eq', and_self, exists_prop]
    unfold isCP at h
    by_cases h1 : 55296 ≤ n
    · by_cases h2 : n ≤ 57343
      · simp only [h1, h2, and_self, if_true] at h ⊢
        exact h
      · have h0 : 0 ≤ n := by omega
        simp only [h1, h2, and_false, if_false, if_true, h0, decide_true, Bool.true_and] at h ⊢
        exact h
    · simp only [h1, false_and, if_false] at h ⊢
      by_cases h0 : 0 ≤ n
      · simp only [h0, if_true, decide_true, Bool.true_and] at h ⊢
        exact h
      · simp only [h0, if_false, decide_false, Bool.false_and] at h ⊢
        exact h
noncomputable def spIsText (K : PySem.W.Frag) : Sp := fun vs H Q _ => ∃ (a : Addr) (ns : List Int), vs = [.ref a] ∧ SqL K H a (ns.map V.int) ∧ ns.length ≤ 1000000 ∧ ∀ H', Same H H' → Q (.bl (decide ((ns.length : Int) ≤ 65536) && ns.all isCP)) H'
theorem sc_is_text : FnScope ["numbers", "number"] ["numbers"] (defScope s_is_text) := ⟨rfl, rfl, rfl, by decide +kernel, rfl, by decide +kernel, by decide +kernel⟩
theorem ok_is_text (G : Gs w K mg ad) : HasOk P w K mg base CX0 2 "is_text" ["numbers"] (spIsText K) := by
  refine G.f_is_text.ok sc_is_text (fun vs H Q E h => ?_) (fun f cdv A outer s H vs Q E hr h => ?_)
  · obtain ⟨a, ns, rfl, _⟩ := h
    rfl
  · obtain ⟨a, ns, rfl, hS, hn, h⟩ := h
    have hz : (ns.map V.int).length ≤ sizeLine := by rw [List.length_map, sizeLine_eq]; omega
    refine ⟨_, (pss_one (ps_ret (pe_and (pe_cmpR op_le (pe_callB (call_len_seqK (K := K) rfl) (by rfl) G.b_len PySem.boot_len (pa_cons (pv 0) pa_nil)) (pe_gi G.c_MOST_CHARACTERS) (nomark _)) (pe_one (pe_callB (call_allK (K := K) rfl rfl) (by rfl) G.b_all PyProof.Rows.boot_all (pa_cons (pe_lc rfl sc_is_text.nd (pi_listK (K := K) rfl (pv 0)) (own := [("number", 1)]) (blkOk_by rfl) (fun s H C cl fp => (pg_name (i := 1) sc_is_text.nd rfl (by first | exact Or.inl rfl | exact Or.inr rfl))) (fun s H C cl fp => pts_nil) (fun s H C cl fp => (pe_c0 (ok_is_code_point G) (hr.mono (by decide)) (pa_cons (pv 1) pa_nil)))) pa_nil)))))), ?_⟩
    simp only [L2.start, List.map_cons, List.map_nil, List.length_cons, List.length_nil, List.replicate, List.cons_append, List.nil_append, List.append_nil, List.getElem?_cons_zero, List.getElem?_cons_succ, List.set_cons_zero, List.set_cons_succ, wipe, tSeq, tIfS, tTest, tB, tChain, tRet, tRetN, tNext, tC, tVar, tDrop, tAsg, gName, tOp, tUn, rI0, rI, rU, tAnd, tOr, tNot, tAndV, tOrV, tNotV, tIf, tIfE, tIfV, tNil, tCons, tCB, tCall, tIsN, tNotN, t2I, tAug, ipI, tYes, tRaiseX, tTry, tLst, tTup, tDNewK, tDGet, tDIn, tDNotIn, sDPut, tBM, rAppend, rExtend, rPop, rIxL, rIxT, rIn, rEq, rNe, rCat, iList, iTup, iRng1, iRng2, iEnum, iEnumS, iZip, tKGet, tKGet1, tKGet2, tDGet1, tDGet2, tBM0, tFld, sFld, tSl, tNoPart, tPart, rSlL, gSub, rSetL, rRep, tMake, gTup, gCons, gNil, cxOf_K, List.map_append, List.length_map, V.int.injEq, V.bl.injEq, V.str.injEq, V.ref.injEq, Option.some.injEq, List.cons.injEq, exists_eq_left', exists_eq_left, exists_eq_right, exists_and_left, and_assoc, and_true, true_and, Bool.false_eq_true, if_false, if_true, reduceIte, decide_eq_true_eq, exists_const, exists_eq, exists_eq', and_self, exists_prop]
    refine ⟨_, .inl hS, ?_⟩
    rw [List.length_map]
    by_cases hl : (ns.length : Int) ≤ 65536
    · rw [if_pos hl]
      refine tlc_map (fun v => match v with | .int n => .bl (isCP n) | v => v) (fun _ r => ⟨_, rfl, _, rfl, ⟨_, hS⟩, r⟩) (runs_list hS) hz (fun i x H' hx s T hT => ?_) (fun D H' hD s hD' => ?_)
      · obtain ⟨n, rfl, hx⟩ := map_at hx
        simp only [L2.start, List.map_cons, List.map_nil, List.length_cons, List.length_nil, List.replicate, List.cons_append, List.nil_append, List.append_nil, List.getElem?_cons_zero, List.getElem?_cons_succ, List.set_cons_zero, List.set_cons_succ, wipe, tSeq, tIfS, tTest, tB, tChain, tRet, tRetN, tNext, tC, tVar, tDrop, tAsg, gName, tOp, tUn, rI0, rI, rU, tAnd, tOr, tNot, tAndV, tOrV, tNotV, tIf, tIfE, tIfV, tNil, tCons, tCB, tCall, tIsN, tNotN, t2I, tAug, ipI, tYes, tRaiseX, tTry, tLst, tTup, tDNewK, tDGet, tDIn, tDNotIn, sDPut, tBM, rAppend, rExtend, rPop, rIxL, rIxT, rIn, rEq, rNe, rCat, iList, iTup, iRng1, iRng2, iEnum, iEnumS, iZip, tKGet, tKGet1, tKGet2, tDGet1, tDGet2, tBM0, tFld, sFld, tSl, tNoPart, tPart, rSlL, gSub, rSetL, rRep, tMake, gTup, gCons, gNil, cxOf_K, List.map_append, List.length_map, V.int.injEq, V.bl.injEq, V.str.injEq, V.ref.injEq, Option.some.injEq, List.cons.injEq, exists_eq_left', exists_eq_left, exists_eq_right, exists_and_left, and_assoc, and_true, true_and, Bool.false_eq_true, if_false, if_true, reduceIte, decide_eq_true_eq, exists_const, exists_eq, exists_eq', and_self, exists_prop]
        exact ⟨n, rfl, hT _ (Same.refl _)⟩
      · refine ⟨D, rfl, ns.map isCP, SqL.of ?_, ?_⟩
        · rw [hD', List.map_map, List.map_map]
          rfl
        · have := h H' s
          rw [decide_eq_true hl, Bool.true_and] at this
          rw [List.all_map]
          exact this
    · rw [if_neg hl]
      have := h H (Same.refl _)
      rw [decide_eq_false hl, Bool.false_and] at this
      exact this
end
section
variable {P : Program} {w : World} {K : PySem.W.Frag} {mg : Str → Option Value} {base : Heap} {ad : Ad}
noncomputable def nm : Sh32.Class → Str
  | .L => "L" | .R => "R" | .A => "A" | .N => "N" | .AN => "AN" | .M => "M" | .LI => "LI" | .RI => "RI" | .FI => "FI" | .PI => "PI" | .B => "B" | .O => "O"
theorem nm_inj : ∀ {c d : Sh32.Class}, nm c = nm d → c = d := by
  intro c d h
  cases c <;> cases d <;> first | rfl | (exfalso; revert h; decide +kernel)
noncomputable def rowsL : List (Sh32.Class × Int × Int) := [(.L, 65, 90), (.L, 97, 122), (.L, 170, 170), (.L, 181, 181), (.L, 186, 186), (.L, 192, 214), (.L, 216, 246), (.L, 248, 687), (.L, 880, 1423), (.L, 2304, 8191), (.L, 11264, 12287), (.L, 12293, 55295), (.L, 63744, 64255), (.L, 65536, 67583), (.L, 69632, 1114111), (.R, 1424, 1535), (.R, 1984, 2303), (.R, 64285, 64335), (.R, 67584, 69631), (.A, 1536, 1631), (.A, 1642, 1775), (.A, 1786, 1983), (.A, 64336, 65023), (.A, 65136, 65278), (.N, 48, 57), (.N, 1632, 1641), (.N, 1776, 1785), (.M, 768, 879), (.M, 1425, 1469), (.M, 1611, 1631), (.M, 8400, 8447), (.LI, 8294, 8294), (.RI, 8295, 8295), (.FI, 8296, 8296), (.PI, 8297, 8297), (.B, 10, 10)]
noncomputable def rowV (r : Sh32.Class × Int × Int) : List V := [.str (nm r.1), .int r.2.1, .int r.2.2]
noncomputable def clsS (n : Int) (f : Sh32.Class) (r : Sh32.Class × Int × Int) : Sh32.Class := if r.2.1 ≤ n ∧ n ≤ r.2.2 then r.1 else f
noncomputable def clsN (n : Int) : Sh32.Class := rowsL.foldl (clsS n) .O
noncomputable def spClassOf : Sp := fun vs H Q _ => ∃ n, vs = [.int n] ∧ Q (.str (nm (clsN n))) H
theorem sc_class_of : FnScope ["code", "found", "row"] ["code"] (defScope s_class_of) := ⟨rfl, rfl, rfl, by decide +kernel, rfl, by decide +kernel, by decide +kernel⟩
theorem ok_class_of (G : Gs w K mg ad) : HasOk P w K mg base CX0 1 "class_of" ["code"] spClassOf := by
  refine G.f_class_of.ok sc_class_of (fun vs H Q E h => ?_) (fun f cdv A outer s H vs Q E hr h => ?_)
  · obtain ⟨n, rfl, _⟩ := h
    rfl
  · obtain ⟨n, rfl, h⟩ := h
    obtain ⟨a_ROWS, h_ROWS, t_ROWS⟩ := G.c_ROWS
    obtain ⟨as, t1, t2⟩ := t_ROWS
    refine ⟨_, (pss_cons (ps_set (i := 1) sc_class_of.nd rfl (by first | exact Or.inl rfl | exact Or.inr rfl) pe_str)
      (pss_cons (ps_for PassesOwn.never rfl (pi_tupK (K := K) rfl (pe_gr h_ROWS)) (pg_name (i := 2) sc_class_of.nd rfl (by first | exact Or.inl rfl | exact Or.inr rfl))
      (pss_one (ps_if (pt_chain op_le op_le (pe_ix (ix_tupK (K := K) rfl) (pv 2) pe_int (fun _ _ => rfl)) (pv 0) (pe_ix (ix_tupK (K := K) rfl) (pv 2) pe_int (fun _ _ => rfl))) (pss_one (ps_set (i := 1) sc_class_of.nd rfl (by first | exact Or.inl rfl | exact Or.inr rfl) (pe_ix (ix_tupK (K := K) rfl) (pv 2) pe_int (fun _ _ => rfl)))) pss_nil)))
      (pss_one (ps_ret (pv 1))))), ?_⟩
    simp only [L2.start, List.map_cons, List.map_nil, List.length_cons, List.length_nil, List.replicate, List.cons_append, List.nil_append, List.append_nil, List.getElem?_cons_zero, List.getElem?_cons_succ, List.set_cons_zero, List.set_cons_succ, wipe, tSeq, tIfS, tTest, tB, tChain, tRet, tRetN, tNext, tC, tVar, tDrop, tAsg, gName, tOp, tUn, rI0, rI, rU, tAnd, tOr, tNot, tAndV, tOrV, tNotV, tIf, tIfE, tIfV, tNil, tCons, tCB, tCall, tIsN, tNotN, t2I, tAug, ipI, tYes, tRaiseX, tTry, tLst, tTup, tDNewK, tDGet, tDIn, tDNotIn, sDPut, tBM, rAppend, rExtend, rPop, rIxL, rIxT, rIn, rEq, rNe, rCat, iList, iTup, iRng1, iRng2, iEnum, iEnumS, iZip, tKGet, tKGet1, tKGet2, tDGet1, tDGet2, tBM0, tFld, sFld, tSl, tNoPart, tPart, rSlL, gSub, rSetL, rRep, tMake, gTup, gCons, gNil, cxOf_K, List.map_append, List.length_map, V.int.injEq, V.bl.injEq, V.str.injEq, V.ref.injEq, Option.some.injEq, List.cons.injEq, exists_eq_left', exists_eq_left, exists_eq_right, exists_and_left, and_assoc, and_true, true_and, Bool.false_eq_true, if_false, if_true, reduceIte, decide_eq_true_eq, exists_const, exists_eq, exists_eq', and_self, exists_prop]
    have t2 : Paired (TupK K) as (rowsL.map rowV) := t2
    refine ⟨_, rfl, ⟨_, t1.sq⟩, for_tup (K := K) (a := a_ROWS) (xs := as.map V.ref) (fun i σ H' => H' = H ∧ ∃ v, σ = [some (.int n), some (.str (nm ((rowsL.take i).foldl (clsS n) .O))), v])
      ⟨rfl, none, rfl⟩ (fun i σ H' _ _ => t1.sq) ?_ ?_⟩
    · rintro i x σ H' hx ⟨rfl, v, rfl⟩
      obtain ⟨a, r, rfl, hr', tk⟩ := Tup2K.get t2 hx
      rw [List.getElem?_map] at hr'
      cases hq : rowsL[i]? with
      | none => rw [hq] at hr'; cases hr'
      | some q =>
        rw [hq] at hr'
        obtain rfl : rowV q = r := Option.some.inj hr'
        obtain ⟨c, lo, hi⟩ := q
        have e : (rowsL.take (i + 1)).foldl (clsS n) .O = clsS n ((rowsL.take i).foldl (clsS n) .O) (c, lo, hi) := by rw [take_snoc hq, List.foldl_append]; rfl
        simp only [L2.start, List.map_cons, List.map_nil, List.length_cons, List.length_nil, List.replicate, List.cons_append, List.nil_append, List.append_nil, List.getElem?_cons_zero, List.getElem?_cons_succ, List.set_cons_zero, List.set_cons_succ, wipe, tSeq, tIfS, tTest, tB, tChain, tRet, tRetN, tNext, tC, tVar, tDrop, tAsg, gName, tOp, tUn, rI0, rI, rU, tAnd, tOr, tNot, tAndV, tOrV, tNotV, tIf, tIfE, tIfV, tNil, tCons, tCB, tCall, tIsN, tNotN, t2I, tAug, ipI, tYes, tRaiseX, tTry, tLst, tTup, tDNewK, tDGet, tDIn, tDNotIn, sDPut, tBM, rAppend, rExtend, rPop, rIxL, rIxT, rIn, rEq, rNe, rCat, iList, iTup, iRng1, iRng2, iEnum, iEnumS, iZip, tKGet, tKGet1, tKGet2, tDGet1, tDGet2, tBM0, tFld, sFld, tSl, tNoPart, tPart, rSlL, gSub, rSetL, rRep, tMake, gTup, gCons, gNil, cxOf_K, List.map_append, List.length_map, V.int.injEq, V.bl.injEq, V.str.injEq, V.ref.injEq, Option.some.injEq, List.cons.injEq, exists_eq_left', exists_eq_left, exists_eq_right, exists_and_left, and_assoc, and_true, true_and, Bool.false_eq_true, if_false, if_true, reduceIte, decide_eq_true_eq, exists_const, exists_eq, exists_eq', and_self, exists_prop]
        refine ⟨_, tk.sq, _, rfl, ?_⟩
        simp only [L2.start, List.map_cons, List.map_nil, List.length_cons, List.length_nil, List.replicate, List.cons_append, List.nil_append, List.append_nil, List.getElem?_cons_zero, List.getElem?_cons_succ, List.set_cons_zero, List.set_cons_succ, wipe, tSeq, tIfS, tTest, tB, tChain, tRet, tRetN, tNext, tC, tVar, tDrop, tAsg, gName, tOp, tUn, rI0, rI, rU, tAnd, tOr, tNot, tAndV, tOrV, tNotV, tIf, tIfE, tIfV, tNil, tCons, tCB, tCall, tIsN, tNotN, t2I, tAug, ipI, tYes, tRaiseX, tTry, tLst, tTup, tDNewK, tDGet, tDIn, tDNotIn, sDPut, tBM, rAppend, rExtend, rPop, rIxL, rIxT, rIn, rEq, rNe, rCat, iList, iTup, iRng1, iRng2, iEnum, iEnumS, iZip, tKGet, tKGet1, tKGet2, tDGet1, tDGet2, tBM0, tFld, sFld, tSl, tNoPart, tPart, rSlL, gSub, rSetL, rRep, tMake, gTup, gCons, gNil, cxOf_K, List.map_append, List.length_map, V.int.injEq, V.bl.injEq, V.str.injEq, V.ref.injEq, Option.some.injEq, List.cons.injEq, exists_eq_left', exists_eq_left, exists_eq_right, exists_and_left, and_assoc, and_true, true_and, Bool.false_eq_true, if_false, if_true, reduceIte, decide_eq_true_eq, exists_const, exists_eq, exists_eq', and_self, exists_prop]
        rw [e]
        unfold clsS
        by_cases h1 : lo ≤ n
        · rw [if_pos h1]
          refine ⟨_, tk.sq, _, rfl, _, rfl, ?_⟩
          by_cases h2 : n ≤ hi
          · rw [if_pos h2, if_pos ⟨h1, h2⟩]
            exact ⟨_, tk.sq, rfl⟩
          · rw [if_neg h2, if_neg fun z => h2 z.2]
        · rw [if_neg h1, if_neg fun z => h1 z.1]
    · rintro σ H' ⟨rfl, v, rfl⟩
      simp only [L2.start, List.map_cons, List.map_nil, List.length_cons, List.length_nil, List.replicate, List.cons_append, List.nil_append, List.append_nil, List.getElem?_cons_zero, List.getElem?_cons_succ, List.set_cons_zero, List.set_cons_succ, wipe, tSeq, tIfS, tTest, tB, tChain, tRet, tRetN, tNext, tC, tVar, tDrop, tAsg, gName, tOp, tUn, rI0, rI, rU, tAnd, tOr, tNot, tAndV, tOrV, tNotV, tIf, tIfE, tIfV, tNil, tCons, tCB, tCall, tIsN, tNotN, t2I, tAug, ipI, tYes, tRaiseX, tTry, tLst, tTup, tDNewK, tDGet, tDIn, tDNotIn, sDPut, tBM, rAppend, rExtend, rPop, rIxL, rIxT, rIn, rEq, rNe, rCat, iList, iTup, iRng1, iRng2, iEnum, iEnumS, iZip, tKGet, tKGet1, tKGet2, tDGet1, tDGet2, tBM0, tFld, sFld, tSl, tNoPart, tPart, rSlL, gSub, rSetL, rRep, tMake, gTup, gCons, gNil, cxOf_K, List.map_append, List.length_map, V.int.injEq, V.bl.injEq, V.str.injEq, V.ref.injEq, Option.some.injEq, List.cons.injEq, exists_eq_left', exists_eq_left, exists_eq_right, exists_and_left, and_assoc, and_true, true_and, Bool.false_eq_true, if_false, if_true, reduceIte, decide_eq_true_eq, exists_const, exists_eq, exists_eq', and_self, exists_prop]
      have e : rowsL.take as.length = rowsL := List.take_of_length_le (by have := t2.length; rw [List.length_map] at this; omega)
      rw [e]
      exact h
theorem in_strong (c : Sh32.Class) : inV (.str (nm c)) [.str "L", .str "R", .str "A"] = Sh32.strong c := by cases c <;> decide +kernel
noncomputable def clsV (n : Int) : V := .str (nm (clsN n))
noncomputable def KnownOk (kvs : List (Key × V)) : Prop := ∀ k v, valV kvs k = some v → ∃ n, k = Sum.inl n ∧ v = clsV n
noncomputable def spClassesOf (K : PySem.W.Frag) : Sp := fun vs H Q _ => ∃ (a : Addr) (ns : List Int), vs = [.ref a] ∧ SqL K H a (ns.map V.int) ∧ ns.length ≤ 1000000 ∧ ∀ D H', H D = none → Same H H' → H' D = some (.lst (ns.map clsV)) → Q (.ref D) H'
theorem sc_classes_of : FnScope ["text", "known", "classes", "code"] ["text"] (defScope s_classes_of) := ⟨rfl, rfl, rfl, by decide +kernel, rfl, by decide +kernel, by decide +kernel⟩
theorem ok_classes_of (G : Gs w K mg ad) : HasOk P w K mg base CX0 2 "classes_of" ["text"] (spClassesOf K) := by
  refine G.f_classes_of.ok sc_classes_of (fun vs H Q E h => ?_) (fun f cdv A outer s H vs Q E hr h => ?_)
  · obtain ⟨a, ns, rfl, _⟩ := h
    rfl
  · obtain ⟨a, ns, rfl, hS, hn, h⟩ := h
    have hu := hu_of hr
    refine ⟨_, (pss_cons (ps_set (i := 1) sc_classes_of.nd rfl (by first | exact Or.inl rfl | exact Or.inr rfl) pe_dnewK)
      (pss_cons (ps_set (i := 2) sc_classes_of.nd rfl (by first | exact Or.inl rfl | exact Or.inr rfl) (pe_lst pa_nil))
      (pss_cons (ps_for PassesOwn.never rfl (pi_listK (K := K) rfl (pv 0)) (pg_name (i := 3) sc_classes_of.nd rfl (by first | exact Or.inl rfl | exact Or.inr rfl))
      (pss_cons (ps_if (pt_cmp (pc_dnotin hu (pv 3) (pv 1))) (pss_one (ps_dput hu (pv 1) (pv 3) (pe_c0 (ok_class_of G) (hr.mono (by decide)) (pa_cons (pv 3) pa_nil)) rfl)) pss_nil)
      (pss_one (ps_expr (pe_bm PySem.F.plainAttrs_list PySem.F.slot_list_append PySem.F.type_list_append mt_append (pv 2) (pa_cons (pe_dget hu (pv 1) (pv 3) (fun _ _ => rfl)) pa_nil))))))
      (pss_one (ps_ret (pv 2)))))), ?_⟩
    simp only [L2.start, List.map_cons, List.map_nil, List.length_cons, List.length_nil, List.replicate, List.cons_append, List.nil_append, List.append_nil, List.getElem?_cons_zero, List.getElem?_cons_succ, List.set_cons_zero, List.set_cons_succ, wipe, tSeq, tIfS, tTest, tB, tChain, tRet, tRetN, tNext, tC, tVar, tDrop, tAsg, gName, tOp, tUn, rI0, rI, rU, tAnd, tOr, tNot, tAndV, tOrV, tNotV, tIf, tIfE, tIfV, tNil, tCons, tCB, tCall, tIsN, tNotN, t2I, tAug, ipI, tYes, tRaiseX, tTry, tLst, tTup, tDNewK, tDGet, tDIn, tDNotIn, sDPut, tBM, rAppend, rExtend, rPop, rIxL, rIxT, rIn, rEq, rNe, rCat, iList, iTup, iRng1, iRng2, iEnum, iEnumS, iZip, tKGet, tKGet1, tKGet2, tDGet1, tDGet2, tBM0, tFld, sFld, tSl, tNoPart, tPart, rSlL, gSub, rSetL, rRep, tMake, gTup, gCons, gNil, cxOf_K, List.map_append, List.length_map, V.int.injEq, V.bl.injEq, V.str.injEq, V.ref.injEq, Option.some.injEq, List.cons.injEq, exists_eq_left', exists_eq_left, exists_eq_right, exists_and_left, and_assoc, and_true, true_and, Bool.false_eq_true, if_false, if_true, reduceIte, decide_eq_true_eq, exists_const, exists_eq, exists_eq', and_self, exists_prop]
    refine fun d hd => ⟨Nat.zero_le _, fun l hl => ?_⟩
    have hld : l ≠ d := fun z => by rw [z, upd_same] at hl; cases hl
    have hl0 : H l = none := by rw [upd_ne hld] at hl; exact hl
    refine ⟨_, rfl, _, rfl, ⟨_, ((Same.add hd).trans (Same.add hl)).seq hS⟩, for_list (K := K) (a := a) (xs := ns.map V.int) (fun i σ H' => Same H H' ∧ H' l = some (.lst ((ns.take i).map clsV)) ∧ (∃ kvs, H' d = some (.dK kvs) ∧ kvs.length ≤ i ∧ KnownOk kvs) ∧ ∃ v, σ = [some (.ref a), some (.ref d), some (.ref l), v])
      ⟨(Same.add hd).trans (Same.add hl), upd_same, ⟨[], by rw [upd_ne hld.symm, upd_same], Nat.le_refl _, fun k v e => by cases e⟩, none, rfl⟩ (fun i σ H' _ p => p.1.seq hS) ?_ ?_⟩
    · rintro i x σ H' hx ⟨sm, h1, ⟨kvs, h2, hk, ko⟩, v, rfl⟩
      obtain ⟨n, rfl, hx'⟩ := map_at hx
      clear hx
      have hx := hx'
      have hi : i < ns.length := (List.getElem?_eq_some_iff.mp hx).1
      have hz : kvs.length < sizeLine := by rw [sizeLine_eq]; omega
      have hz2 : ((ns.take i).map clsV).length < sizeLine := by rw [List.length_map, List.length_take, sizeLine_eq]; omega
      have ea : (ns.take (i + 1)).map clsV = (ns.take i).map clsV ++ [clsV n] := by rw [take_snoc hx, List.map_append]; rfl
      simp only [L2.start, List.map_cons, List.map_nil, List.length_cons, List.length_nil, List.replicate, List.cons_append, List.nil_append, List.append_nil, List.getElem?_cons_zero, List.getElem?_cons_succ, List.set_cons_zero, List.set_cons_succ, wipe, tSeq, tIfS, tTest, tB, tChain, tRet, tRetN, tNext, tC, tVar, tDrop, tAsg, gName, tOp, tUn, rI0, rI, rU, tAnd, tOr, tNot, tAndV, tOrV, tNotV, tIf, tIfE, tIfV, tNil, tCons, tCB, tCall, tIsN, tNotN, t2I, tAug, ipI, tYes, tRaiseX, tTry, tLst, tTup, tDNewK, tDGet, tDIn, tDNotIn, sDPut, tBM, rAppend, rExtend, rPop, rIxL, rIxT, rIn, rEq, rNe, rCat, iList, iTup, iRng1, iRng2, iEnum, iEnumS, iZip, tKGet, tKGet1, tKGet2, tDGet1, tDGet2, tBM0, tFld, sFld, tSl, tNoPart, tPart, rSlL, gSub, rSetL, rRep, tMake, gTup, gCons, gNil, cxOf_K, List.map_append, List.length_map, V.int.injEq, V.bl.injEq, V.str.injEq, V.ref.injEq, Option.some.injEq, List.cons.injEq, exists_eq_left', exists_eq_left, exists_eq_right, exists_and_left, and_assoc, and_true, true_and, Bool.false_eq_true, if_false, if_true, reduceIte, decide_eq_true_eq, exists_const, exists_eq, exists_eq', and_self, exists_prop]
      refine ⟨_, DGet.k (k := Sum.inl n) h2, ?_⟩
      cases e : valV kvs (Sum.inl n) with
      | none =>
        simp only [Option.isSome_none, Bool.not_false, if_true]
        refine ⟨n, rfl, _, DPut.k (k := Sum.inl n) h2 hz, .inl ⟨rfl, _, SqL.of (by rw [upd_ne hld]; exact h1)⟩, ?_⟩
        refine ⟨clsV n, ?_, _, by rw [upd_ne hld]; exact h1, hz2, ?_⟩
        · have := DGet.k (H := upd H' d (.dK (putK kvs (Sum.inl n) (clsV n)))) (a := d) (kvs := putK kvs (Sum.inl n) (clsV n)) (k := Sum.inl n) upd_same
          rw [valV_put, if_pos rfl] at this
          exact this
        · rw [ea]
          refine ⟨(sm.updn hd).updn hl0, upd_same, putK kvs (Sum.inl n) (clsV n), by rw [upd_ne hld.symm, upd_same]; rfl, ?_, fun k v q => ?_⟩
          · rw [putK_new _ e, List.length_append]
            simp only [List.length_cons, List.length_nil]
            omega
          · rw [valV_put] at q
            split at q
            · rename_i hk'
              subst hk'
              cases q
              exact ⟨n, rfl, rfl⟩
            · exact ko k v q
      | some u =>
        obtain ⟨n', e1, rfl⟩ := ko _ _ e
        cases e1
        simp only [Option.isSome_some, Bool.not_true, Bool.false_eq_true, if_false]
        refine ⟨.inl ⟨rfl, _, SqL.of h1⟩, clsV n, ?_, _, h1, hz2, ?_⟩
        · have := DGet.k (k := Sum.inl n) h2
          rw [e] at this
          exact this
        · rw [ea]
          exact ⟨sm.updn hl0, upd_same, kvs, by rw [upd_ne hld.symm]; exact h2, by omega, ko⟩
    · rintro σ H' ⟨sm, h1, _, v, rfl⟩
      simp only [L2.start, List.map_cons, List.map_nil, List.length_cons, List.length_nil, List.replicate, List.cons_append, List.nil_append, List.append_nil, List.getElem?_cons_zero, List.getElem?_cons_succ, List.set_cons_zero, List.set_cons_succ, wipe, tSeq, tIfS, tTest, tB, tChain, tRet, tRetN, tNext, tC, tVar, tDrop, tAsg, gName, tOp, tUn, rI0, rI, rU, tAnd, tOr, tNot, tAndV, tOrV, tNotV, tIf, tIfE, tIfV, tNil, tCons, tCB, tCall, tIsN, tNotN, t2I, tAug, ipI, tYes, tRaiseX, tTry, tLst, tTup, tDNewK, tDGet, tDIn, tDNotIn, sDPut, tBM, rAppend, rExtend, rPop, rIxL, rIxT, rIn, rEq, rNe, rCat, iList, iTup, iRng1, iRng2, iEnum, iEnumS, iZip, tKGet, tKGet1, tKGet2, tDGet1, tDGet2, tBM0, tFld, sFld, tSl, tNoPart, tPart, rSlL, gSub, rSetL, rRep, tMake, gTup, gCons, gNil, cxOf_K, List.map_append, List.length_map, V.int.injEq, V.bl.injEq, V.str.injEq, V.ref.injEq, Option.some.injEq, List.cons.injEq, exists_eq_left', exists_eq_left, exists_eq_right, exists_and_left, and_assoc, and_true, true_and, Bool.false_eq_true, if_false, if_true, reduceIte, decide_eq_true_eq, exists_const, exists_eq, exists_eq', and_self, exists_prop]
      rw [List.length_map, List.take_length] at h1
      exact h l H' hl0 sm h1
end
section
variable {P : Program} {w : World} {K : PySem.W.Frag} {mg : Str → Option Value} {base : Heap} {ad : Ad}
noncomputable def nV (c : Sh32.Class) : V := .str (nm c)
theorem nV_eq {c d : Sh32.Class} : (nV c = nV d) ↔ c = d := ⟨fun h => nm_inj (V.str.inj h), fun h => h ▸ rfl⟩
noncomputable def around (c : Sh32.Class) : Bool := Sh32.opens c || c == .PI
theorem in_around (c : Sh32.Class) : inV (nV c) [.str "LI", .str "RI", .str "FI", .str "PI"] = around c := by cases c <;> decide +kernel
theorem in_neutral (c : Sh32.Class) : inV (nV c) [.str "O", .str "LI", .str "RI", .str "FI", .str "PI", .str "B"] = Sh32.neutral c := by cases c <;> decide +kernel
theorem in_strong' (c : Sh32.Class) : inV (nV c) [.str "L", .str "R", .str "A"] = Sh32.strong c := in_strong c
theorem in_pushing (c : Sh32.Class) : inV (nV c) [.str "LI", .str "RI", .str "FI"] = Sh32.opens c := by cases c <;> decide +kernel
noncomputable def stM (s : List Sh32.Class × Sh32.Class) (c : Sh32.Class) : List Sh32.Class × Sh32.Class :=
  let b := if c ≠ .M then c else if around s.2 = true then .O else s.2
  (s.1 ++ [b], b)
noncomputable def marksM (side : Sh32.Class) (cs : List Sh32.Class) : List Sh32.Class := (cs.foldl stM ([], side)).1
theorem stM_len (cs : List Sh32.Class) : ∀ s, ((cs.foldl stM s).1).length = s.1.length + cs.length := by
  induction cs with
  | nil => intro s; rfl
  | cons c r ih => intro s; rw [List.foldl_cons, ih]; simp [stM]; omega
noncomputable def spNames (f : Sh32.Class → List Sh32.Class → List Sh32.Class) : Sp := fun vs H Q _ => ∃ (a : Addr) (cs : List Sh32.Class) (side : Sh32.Class), vs = [.ref a, nV side] ∧ H a = some (.lst (cs.map nV)) ∧ cs.length ≤ 1000000 ∧ ∀ D H', H D = none → Same H H' → H' D = some (.lst ((f side cs).map nV)) → Q (.ref D) H'
theorem sc_marks_settled : FnScope ["names", "side", "settled", "before", "name"] ["names", "side"] (defScope s_marks_settled) := ⟨rfl, rfl, rfl, by decide +kernel, rfl, by decide +kernel, by decide +kernel⟩
theorem ok_marks_settled (G : Gs w K mg ad) : HasOk P w K mg base CX0 1 "marks_settled" ["names", "side"] (spNames marksM) := by
  refine G.f_marks_settled.ok sc_marks_settled (fun vs H Q E h => ?_) (fun f cdv A outer s H vs Q E hr h => ?_)
  · obtain ⟨a, cs, side, rfl, _⟩ := h
    rfl
  · obtain ⟨a, cs, side, rfl, hS, hn, h⟩ := h
    obtain ⟨a_AROUND_MARKS, h_AROUND_MARKS, t_AROUND_MARKS⟩ := G.c_AROUND_MARKS
    refine ⟨_, (pss_cons (ps_set (i := 2) sc_marks_settled.nd rfl (by first | exact Or.inl rfl | exact Or.inr rfl) (pe_lst pa_nil))
      (pss_cons (ps_set (i := 3) sc_marks_settled.nd rfl (by first | exact Or.inl rfl | exact Or.inr rfl) (pv 1))
      (pss_cons (ps_for PassesOwn.never rfl (pi_listK (K := K) rfl (pv 0)) (pg_name (i := 4) sc_marks_settled.nd rfl (by first | exact Or.inl rfl | exact Or.inr rfl))
      (pss_cons (ps_if (pt_cmpR op_ne (pv 4) pe_str (nomark _)) (pss_one (ps_set (i := 3) sc_marks_settled.nd rfl (by first | exact Or.inl rfl | exact Or.inr rfl) (pv 4))) (pss_one (ps_if (pt_cmpR (op_in_seqK (K := K) rfl) (pv 3) (pe_gr h_AROUND_MARKS) (by with_unfolding_all rfl)) (pss_one (ps_set (i := 3) sc_marks_settled.nd rfl (by first | exact Or.inl rfl | exact Or.inr rfl) pe_str)) pss_nil)))
      (pss_one (ps_expr (pe_bm PySem.F.plainAttrs_list PySem.F.slot_list_append PySem.F.type_list_append mt_append (pv 2) (pa_cons (pv 3) pa_nil))))))
      (pss_one (ps_ret (pv 2)))))), ?_⟩
    simp only [L2.start, List.map_cons, List.map_nil, List.length_cons, List.length_nil, List.replicate, List.cons_append, List.nil_append, List.append_nil, List.getElem?_cons_zero, List.getElem?_cons_succ, List.set_cons_zero, List.set_cons_succ, wipe, tSeq, tIfS, tTest, tB, tChain, tRet, tRetN, tNext, tC, tVar, tDrop, tAsg, gName, tOp, tUn, rI0, rI, rU, tAnd, tOr, tNot, tAndV, tOrV, tNotV, tIf, tIfE, tIfV, tNil, tCons, tCB, tCall, tIsN, tNotN, t2I, tAug, ipI, tYes, tRaiseX, tTry, tLst, tTup, tDNewK, tDGet, tDIn, tDNotIn, sDPut, tBM, rAppend, rExtend, rPop, rIxL, rIxT, rIn, rEq, rNe, rCat, iList, iTup, iRng1, iRng2, iEnum, iEnumS, iZip, tKGet, tKGet1, tKGet2, tDGet1, tDGet2, tBM0, tFld, sFld, tSl, tNoPart, tPart, rSlL, gSub, rSetL, rRep, tMake, gTup, gCons, gNil, cxOf_K, List.map_append, List.length_map, V.int.injEq, V.bl.injEq, V.str.injEq, V.ref.injEq, Option.some.injEq, List.cons.injEq, exists_eq_left', exists_eq_left, exists_eq_right, exists_and_left, and_assoc, and_true, true_and, Bool.false_eq_true, if_false, if_true, reduceIte, decide_eq_true_eq, exists_const, exists_eq, exists_eq', and_self, exists_prop]
    refine ⟨Nat.zero_le _, fun l hl => ?_⟩
    refine ⟨_, rfl, _, rfl, ⟨_, SqL.of (Same.add hl _ _ hS)⟩, for_list (K := K) (a := a) (xs := cs.map nV) (fun i σ H' => Same H H' ∧ H' l = some (.lst (((cs.take i).foldl stM ([], side)).1.map nV)) ∧ ∃ v, σ = [some (.ref a), some (nV side), some (.ref l), some (nV ((cs.take i).foldl stM ([], side)).2), v])
      ⟨Same.add hl, upd_same, none, rfl⟩ (fun i σ H' _ p => SqL.of (p.1 _ _ hS)) ?_ ?_⟩
    · rintro i x σ H' hx ⟨sm, h1, v, rfl⟩
      obtain ⟨c, rfl, hc⟩ := map_at hx
      have hi : i < cs.length := (List.getElem?_eq_some_iff.mp hc).1
      rw [take_snoc hc, List.foldl_append, List.foldl_cons, List.foldl_nil]
      have hlen := stM_len (cs.take i) ([], side)
      generalize (cs.take i).foldl stM ([], side) = st at h1 hlen
      have hz : (st.1.map nV).length < sizeLine := by rw [List.length_map, hlen, List.length_take, sizeLine_eq]; simp; omega
      have eM : (nV c = V.str "M") ↔ c = .M := nV_eq (d := .M)
      simp only [L2.start, List.map_cons, List.map_nil, List.length_cons, List.length_nil, List.replicate, List.cons_append, List.nil_append, List.append_nil, List.getElem?_cons_zero, List.getElem?_cons_succ, List.set_cons_zero, List.set_cons_succ, wipe, tSeq, tIfS, tTest, tB, tChain, tRet, tRetN, tNext, tC, tVar, tDrop, tAsg, gName, tOp, tUn, rI0, rI, rU, tAnd, tOr, tNot, tAndV, tOrV, tNotV, tIf, tIfE, tIfV, tNil, tCons, tCB, tCall, tIsN, tNotN, t2I, tAug, ipI, tYes, tRaiseX, tTry, tLst, tTup, tDNewK, tDGet, tDIn, tDNotIn, sDPut, tBM, rAppend, rExtend, rPop, rIxL, rIxT, rIn, rEq, rNe, rCat, iList, iTup, iRng1, iRng2, iEnum, iEnumS, iZip, tKGet, tKGet1, tKGet2, tDGet1, tDGet2, tBM0, tFld, sFld, tSl, tNoPart, tPart, rSlL, gSub, rSetL, rRep, tMake, gTup, gCons, gNil, cxOf_K, List.map_append, List.length_map, V.int.injEq, V.bl.injEq, V.str.injEq, V.ref.injEq, Option.some.injEq, List.cons.injEq, exists_eq_left', exists_eq_left, exists_eq_right, exists_and_left, and_assoc, and_true, true_and, Bool.false_eq_true, if_false, if_true, reduceIte, decide_eq_true_eq, exists_const, exists_eq, exists_eq', and_self, exists_prop]
      refine ⟨rfl, ?_⟩
      simp only [eM]
      have fin : ∀ b : Sh32.Class, stM st c = (st.1 ++ [b], b) → tyV K "list" (V.ref l) H' ∧ ∃ x, H' l = some (.lst x) ∧ x.length < sizeLine ∧ Same H (upd H' l (.lst (x ++ [nV b]))) ∧ upd H' l (.lst (x ++ [nV b])) l = some (.lst ((stM st c).1.map nV)) ∧ nV b = nV (stM st c).2 := fun b e => by
        rw [e]
        exact ⟨.inl ⟨rfl, _, SqL.of h1⟩, _, h1, hz, sm.updn hl, by rw [upd_same, List.map_append]; rfl, rfl⟩
      by_cases k1 : c = .M
      · simp only [k1, decide_true, Bool.not_true, Bool.false_eq_true, if_false]
        refine ⟨_, .inr t_AROUND_MARKS.sq, rfl, rfl, ?_⟩
        rw [in_around]
        by_cases k2 : around st.2 = true
        · rw [if_pos k2]
          have := fin .O (by simp [stM, k1, k2])
          rw [k1] at this
          exact this
        · rw [if_neg k2]
          have := fin st.2 (by simp [stM, k1, k2])
          rw [k1] at this
          exact this
      · simp only [k1, decide_false, Bool.not_false, if_true]
        exact fin c (by simp [stM, k1])
    · rintro σ H' ⟨sm, h1, v, rfl⟩
      simp only [L2.start, List.map_cons, List.map_nil, List.length_cons, List.length_nil, List.replicate, List.cons_append, List.nil_append, List.append_nil, List.getElem?_cons_zero, List.getElem?_cons_succ, List.set_cons_zero, List.set_cons_succ, wipe, tSeq, tIfS, tTest, tB, tChain, tRet, tRetN, tNext, tC, tVar, tDrop, tAsg, gName, tOp, tUn, rI0, rI, rU, tAnd, tOr, tNot, tAndV, tOrV, tNotV, tIf, tIfE, tIfV, tNil, tCons, tCB, tCall, tIsN, tNotN, t2I, tAug, ipI, tYes, tRaiseX, tTry, tLst, tTup, tDNewK, tDGet, tDIn, tDNotIn, sDPut, tBM, rAppend, rExtend, rPop, rIxL, rIxT, rIn, rEq, rNe, rCat, iList, iTup, iRng1, iRng2, iEnum, iEnumS, iZip, tKGet, tKGet1, tKGet2, tDGet1, tDGet2, tBM0, tFld, sFld, tSl, tNoPart, tPart, rSlL, gSub, rSetL, rRep, tMake, gTup, gCons, gNil, cxOf_K, List.map_append, List.length_map, V.int.injEq, V.bl.injEq, V.str.injEq, V.ref.injEq, Option.some.injEq, List.cons.injEq, exists_eq_left', exists_eq_left, exists_eq_right, exists_and_left, and_assoc, and_true, true_and, Bool.false_eq_true, if_false, if_true, reduceIte, decide_eq_true_eq, exists_const, exists_eq, exists_eq', and_self, exists_prop]
      rw [List.length_map, List.take_length] at h1
      exact h l H' hl sm h1
noncomputable def digM (c : Sh32.Class) : Sh32.Class := if c = .A then .AN else if c = .L then .L else .N
noncomputable def spDig : Sp := fun vs H Q _ => ∃ c, vs = [nV c] ∧ Q (nV (digM c)) H
theorem sc_digit_settled : FnScope ["last"] ["last"] (defScope s_digit_settled) := ⟨rfl, rfl, rfl, by decide +kernel, rfl, by decide +kernel, by decide +kernel⟩
theorem ok_digit_settled (G : Gs w K mg ad) : HasOk P w K mg base CX0 1 "digit_settled" ["last"] spDig := by
  refine G.f_digit_settled.ok sc_digit_settled (fun vs H Q E h => ?_) (fun f cdv A outer s H vs Q E hr h => ?_)
  · obtain ⟨c, rfl, _⟩ := h
    rfl
  · obtain ⟨c, rfl, h⟩ := h
    refine ⟨_, (pss_cons (ps_if (pt_cmpR op_eq (pv 0) pe_str (nomark _)) (pss_one (ps_ret pe_str)) pss_nil)
      (pss_one (ps_ret (pe_ifE (pt_cmpR op_eq (pv 0) pe_str (nomark _)) pe_str pe_str)))), ?_⟩
    simp only [L2.start, List.map_cons, List.map_nil, List.length_cons, List.length_nil, List.replicate, List.cons_append, List.nil_append, List.append_nil, List.getElem?_cons_zero, List.getElem?_cons_succ, List.set_cons_zero, List.set_cons_succ, wipe, tSeq, tIfS, tTest, tB, tChain, tRet, tRetN, tNext, tC, tVar, tDrop, tAsg, gName, tOp, tUn, rI0, rI, rU, tAnd, tOr, tNot, tAndV, tOrV, tNotV, tIf, tIfE, tIfV, tNil, tCons, tCB, tCall, tIsN, tNotN, t2I, tAug, ipI, tYes, tRaiseX, tTry, tLst, tTup, tDNewK, tDGet, tDIn, tDNotIn, sDPut, tBM, rAppend, rExtend, rPop, rIxL, rIxT, rIn, rEq, rNe, rCat, iList, iTup, iRng1, iRng2, iEnum, iEnumS, iZip, tKGet, tKGet1, tKGet2, tDGet1, tDGet2, tBM0, tFld, sFld, tSl, tNoPart, tPart, rSlL, gSub, rSetL, rRep, tMake, gTup, gCons, gNil, cxOf_K, List.map_append, List.length_map, V.int.injEq, V.bl.injEq, V.str.injEq, V.ref.injEq, Option.some.injEq, List.cons.injEq, exists_eq_left', exists_eq_left, exists_eq_right, exists_and_left, and_assoc, and_true, true_and, Bool.false_eq_true, if_false, if_true, reduceIte, decide_eq_true_eq, exists_const, exists_eq, exists_eq', and_self, exists_prop]
    have eA : (nV c = V.str "A") ↔ c = .A := nV_eq (d := .A)
    have eL : (nV c = V.str "L") ↔ c = .L := nV_eq (d := .L)
    simp only [eA, eL]
    unfold digM at h
    refine ⟨rfl, ?_⟩
    by_cases k1 : c = .A
    · simp only [k1, if_true] at h ⊢
      exact h
    · simp only [k1, if_false] at h ⊢
      refine ⟨rfl, ?_⟩
      by_cases k2 : c = .L
      · simp only [k2, if_true] at h ⊢
        exact h
      · simp only [k2, if_false] at h ⊢
        exact h
noncomputable def stD (s : List Sh32.Class × Sh32.Class) (c : Sh32.Class) : List Sh32.Class × Sh32.Class :=
  let l := if Sh32.strong c = true then c else s.2
  (s.1 ++ [if c = .N then digM l else c], l)
noncomputable def digitsM (side : Sh32.Class) (cs : List Sh32.Class) : List Sh32.Class := (cs.foldl stD ([], side)).1
theorem stD_len (cs : List Sh32.Class) : ∀ s, ((cs.foldl stD s).1).length = s.1.length + cs.length := by
  induction cs with
  | nil => intro s; rfl
  | cons c r ih => intro s; rw [List.foldl_cons, ih]; simp [stD]; omega
theorem sc_digits_settled : FnScope ["names", "side", "settled", "last", "name"] ["names", "side"] (defScope s_digits_settled) := ⟨rfl, rfl, rfl, by decide +kernel, rfl, by decide +kernel, by decide +kernel⟩
theorem ok_digits_settled (G : Gs w K mg ad) : HasOk P w K mg base CX0 2 "digits_settled" ["names", "side"] (spNames digitsM) := by
  refine G.f_digits_settled.ok sc_digits_settled (fun vs H Q E h => ?_) (fun f cdv A outer s H vs Q E hr h => ?_)
  · obtain ⟨a, cs, side, rfl, _⟩ := h
    rfl
  · obtain ⟨a, cs, side, rfl, hS, hn, h⟩ := h
    obtain ⟨a_STRONG, h_STRONG, t_STRONG⟩ := G.c_STRONG
    refine ⟨_, (pss_cons (ps_set (i := 2) sc_digits_settled.nd rfl (by first | exact Or.inl rfl | exact Or.inr rfl) (pe_lst pa_nil))
      (pss_cons (ps_set (i := 3) sc_digits_settled.nd rfl (by first | exact Or.inl rfl | exact Or.inr rfl) (pv 1))
      (pss_cons (ps_for PassesOwn.never rfl (pi_listK (K := K) rfl (pv 0)) (pg_name (i := 4) sc_digits_settled.nd rfl (by first | exact Or.inl rfl | exact Or.inr rfl))
      (pss_cons (ps_if (pt_cmpR (op_in_seqK (K := K) rfl) (pv 4) (pe_gr h_STRONG) (by with_unfolding_all rfl)) (pss_one (ps_set (i := 3) sc_digits_settled.nd rfl (by first | exact Or.inl rfl | exact Or.inr rfl) (pv 4))) pss_nil)
      (pss_one (ps_expr (pe_bm PySem.F.plainAttrs_list PySem.F.slot_list_append PySem.F.type_list_append mt_append (pv 2) (pa_cons (pe_ifExp (pt_cmpR op_eq (pv 4) pe_str (nomark _)) (pe_c0 (ok_digit_settled G) (hr.mono (by decide)) (pa_cons (pv 3) pa_nil)) (pv 4)) pa_nil))))))
      (pss_one (ps_ret (pv 2)))))), ?_⟩
    simp only [L2.start, List.map_cons, List.map_nil, List.length_cons, List.length_nil, List.replicate, List.cons_append, List.nil_append, List.append_nil, List.getElem?_cons_zero, List.getElem?_cons_succ, List.set_cons_zero, List.set_cons_succ, wipe, tSeq, tIfS, tTest, tB, tChain, tRet, tRetN, tNext, tC, tVar, tDrop, tAsg, gName, tOp, tUn, rI0, rI, rU, tAnd, tOr, tNot, tAndV, tOrV, tNotV, tIf, tIfE, tIfV, tNil, tCons, tCB, tCall, tIsN, tNotN, t2I, tAug, ipI, tYes, tRaiseX, tTry, tLst, tTup, tDNewK, tDGet, tDIn, tDNotIn, sDPut, tBM, rAppend, rExtend, rPop, rIxL, rIxT, rIn, rEq, rNe, rCat, iList, iTup, iRng1, iRng2, iEnum, iEnumS, iZip, tKGet, tKGet1, tKGet2, tDGet1, tDGet2, tBM0, tFld, sFld, tSl, tNoPart, tPart, rSlL, gSub, rSetL, rRep, tMake, gTup, gCons, gNil, cxOf_K, List.map_append, List.length_map, V.int.injEq, V.bl.injEq, V.str.injEq, V.ref.injEq, Option.some.injEq, List.cons.injEq, exists_eq_left', exists_eq_left, exists_eq_right, exists_and_left, and_assoc, and_true, true_and, Bool.false_eq_true, if_false, if_true, reduceIte, decide_eq_true_eq, exists_const, exists_eq, exists_eq', and_self, exists_prop]
    refine ⟨Nat.zero_le _, fun l hl => ?_⟩
    refine ⟨_, rfl, _, rfl, ⟨_, SqL.of (Same.add hl _ _ hS)⟩, for_list (K := K) (a := a) (xs := cs.map nV) (fun i σ H' => Same H H' ∧ H' l = some (.lst (((cs.take i).foldl stD ([], side)).1.map nV)) ∧ ∃ v, σ = [some (.ref a), some (nV side), some (.ref l), some (nV ((cs.take i).foldl stD ([], side)).2), v])
      ⟨Same.add hl, upd_same, none, rfl⟩ (fun i σ H' _ p => SqL.of (p.1 _ _ hS)) ?_ ?_⟩
    · rintro i x σ H' hx ⟨sm, h1, v, rfl⟩
      obtain ⟨c, rfl, hc⟩ := map_at hx
      have hi : i < cs.length := (List.getElem?_eq_some_iff.mp hc).1
      rw [take_snoc hc, List.foldl_append, List.foldl_cons, List.foldl_nil]
      have hlen := stD_len (cs.take i) ([], side)
      generalize (cs.take i).foldl stD ([], side) = st at h1 hlen
      have hz : (st.1.map nV).length < sizeLine := by rw [List.length_map, hlen, List.length_take, sizeLine_eq]; simp; omega
      have eN : (nV c = V.str "N") ↔ c = .N := nV_eq (d := .N)
      simp only [L2.start, List.map_cons, List.map_nil, List.length_cons, List.length_nil, List.replicate, List.cons_append, List.nil_append, List.append_nil, List.getElem?_cons_zero, List.getElem?_cons_succ, List.set_cons_zero, List.set_cons_succ, wipe, tSeq, tIfS, tTest, tB, tChain, tRet, tRetN, tNext, tC, tVar, tDrop, tAsg, gName, tOp, tUn, rI0, rI, rU, tAnd, tOr, tNot, tAndV, tOrV, tNotV, tIf, tIfE, tIfV, tNil, tCons, tCB, tCall, tIsN, tNotN, t2I, tAug, ipI, tYes, tRaiseX, tTry, tLst, tTup, tDNewK, tDGet, tDIn, tDNotIn, sDPut, tBM, rAppend, rExtend, rPop, rIxL, rIxT, rIn, rEq, rNe, rCat, iList, iTup, iRng1, iRng2, iEnum, iEnumS, iZip, tKGet, tKGet1, tKGet2, tDGet1, tDGet2, tBM0, tFld, sFld, tSl, tNoPart, tPart, rSlL, gSub, rSetL, rRep, tMake, gTup, gCons, gNil, cxOf_K, List.map_append, List.length_map, V.int.injEq, V.bl.injEq, V.str.injEq, V.ref.injEq, Option.some.injEq, List.cons.injEq, exists_eq_left', exists_eq_left, exists_eq_right, exists_and_left, and_assoc, and_true, true_and, Bool.false_eq_true, if_false, if_true, reduceIte, decide_eq_true_eq, exists_const, exists_eq, exists_eq', and_self, exists_prop]
      refine ⟨_, .inr t_STRONG.sq, rfl, rfl, ?_⟩
      rw [in_strong']
      have fin : ∀ b d : Sh32.Class, stD st c = (st.1 ++ [b], d) → ∃ x, H' l = some (.lst x) ∧ x.length < sizeLine ∧ Same H (upd H' l (.lst (x ++ [nV b]))) ∧ upd H' l (.lst (x ++ [nV b])) l = some (.lst ((stD st c).1.map nV)) ∧ nV d = nV (stD st c).2 := fun b d e => by
        rw [e]
        exact ⟨_, h1, hz, sm.updn hl, by rw [upd_same, List.map_append]; rfl, rfl⟩
      simp only [eN]
      by_cases k1 : Sh32.strong c = true
      · rw [if_pos k1]
        refine ⟨.inl ⟨rfl, _, SqL.of h1⟩, rfl, ?_⟩
        by_cases k2 : c = .N
        · rw [k2] at k1; cases k1
        · simp only [k2, if_false]
          exact fin c c (by simp [stD, k1, k2])
      · rw [if_neg k1]
        refine ⟨.inl ⟨rfl, _, SqL.of h1⟩, rfl, ?_⟩
        by_cases k2 : c = .N
        · simp only [k2, if_true]
          refine ⟨st.2, rfl, ?_⟩
          have := fin (digM st.2) st.2 (by simp only [stD]; rw [if_neg k1, if_pos k2])
          rw [k2] at this
          exact this
        · simp only [k2, if_false]
          exact fin c st.2 (by simp [stD, k1, k2])
    · rintro σ H' ⟨sm, h1, v, rfl⟩
      simp only [L2.start, List.map_cons, List.map_nil, List.length_cons, List.length_nil, List.replicate, List.cons_append, List.nil_append, List.append_nil, List.getElem?_cons_zero, List.getElem?_cons_succ, List.set_cons_zero, List.set_cons_succ, wipe, tSeq, tIfS, tTest, tB, tChain, tRet, tRetN, tNext, tC, tVar, tDrop, tAsg, gName, tOp, tUn, rI0, rI, rU, tAnd, tOr, tNot, tAndV, tOrV, tNotV, tIf, tIfE, tIfV, tNil, tCons, tCB, tCall, tIsN, tNotN, t2I, tAug, ipI, tYes, tRaiseX, tTry, tLst, tTup, tDNewK, tDGet, tDIn, tDNotIn, sDPut, tBM, rAppend, rExtend, rPop, rIxL, rIxT, rIn, rEq, rNe, rCat, iList, iTup, iRng1, iRng2, iEnum, iEnumS, iZip, tKGet, tKGet1, tKGet2, tDGet1, tDGet2, tBM0, tFld, sFld, tSl, tNoPart, tPart, rSlL, gSub, rSetL, rRep, tMake, gTup, gCons, gNil, cxOf_K, List.map_append, List.length_map, V.int.injEq, V.bl.injEq, V.str.injEq, V.ref.injEq, Option.some.injEq, List.cons.injEq, exists_eq_left', exists_eq_left, exists_eq_right, exists_and_left, and_assoc, and_true, true_and, Bool.false_eq_true, if_false, if_true, reduceIte, decide_eq_true_eq, exists_const, exists_eq, exists_eq', and_self, exists_prop]
      rw [List.length_map, List.take_length] at h1
      exact h l H' hl sm h1
noncomputable def stN (side : Sh32.Class) (s : List Sh32.Class × Sh32.Class × Nat) (c : Sh32.Class) : List Sh32.Class × Sh32.Class × Nat :=
  if Sh32.neutral c = true then (s.1, s.2.1, s.2.2 + 1) else (s.1 ++ List.replicate s.2.2 (if s.2.1 = Sh32.sided c then Sh32.sided c else side) ++ [c], Sh32.sided c, 0)
noncomputable def neutM (side : Sh32.Class) (cs : List Sh32.Class) : List Sh32.Class := (((cs ++ [side]).foldl (stN side) ([], side, 0)).1).dropLast
theorem stN_len (side : Sh32.Class) (cs : List Sh32.Class) : ∀ s, ((cs.foldl (stN side) s).1).length + (cs.foldl (stN side) s).2.2 = s.1.length + s.2.2 + cs.length := by
  induction cs with
  | nil => intro s; rfl
  | cons c r ih =>
    intro s
    rw [List.foldl_cons, ih]
    unfold stN
    split <;> simp <;> omega
theorem nV_sided (c : Sh32.Class) : (if c = .L then V.str "L" else V.str "R") = nV (Sh32.sided c) := by
  unfold Sh32.sided
  split <;> rfl
theorem sc_neutrals_settled : FnScope ["names", "side", "settled", "before", "waiting", "name", "behind"] ["names", "side"] (defScope s_neutrals_settled) := ⟨rfl, rfl, rfl, by decide +kernel, rfl, by decide +kernel, by decide +kernel⟩
theorem ok_neutrals_settled (G : Gs w K mg ad) : HasOk P w K mg base CX0 1 "neutrals_settled" ["names", "side"] (spNames neutM) := by
  refine G.f_neutrals_settled.ok sc_neutrals_settled (fun vs H Q E h => ?_) (fun f cdv A outer s H vs Q E hr h => ?_)
  · obtain ⟨a, cs, side, rfl, _⟩ := h
    rfl
  · obtain ⟨a, cs, side, rfl, hS, hn, h⟩ := h
    obtain ⟨a_NEUTRAL, h_NEUTRAL, t_NEUTRAL⟩ := G.c_NEUTRAL
    refine ⟨_, (pss_cons (ps_set (i := 2) sc_neutrals_settled.nd rfl (by first | exact Or.inl rfl | exact Or.inr rfl) (pe_lst pa_nil))
      (pss_cons (ps_set (i := 3) sc_neutrals_settled.nd rfl (by first | exact Or.inl rfl | exact Or.inr rfl) (pv 1))
      (pss_cons (ps_set (i := 4) sc_neutrals_settled.nd rfl (by first | exact Or.inl rfl | exact Or.inr rfl) pe_int)
      (pss_cons (ps_for PassesOwn.never rfl (pi_listK (K := K) rfl (pe_op op_cat (pv 0) (pe_lst (pa_cons (pv 1) pa_nil)))) (pg_name (i := 5) sc_neutrals_settled.nd rfl (by first | exact Or.inl rfl | exact Or.inr rfl))
      (pss_one (ps_if (pt_cmpR (op_in_seqK (K := K) rfl) (pv 5) (pe_gr h_NEUTRAL) (by with_unfolding_all rfl)) (pss_one (ps_aug (i := 4) sc_neutrals_settled.nd rfl (by first | exact Or.inl rfl | exact Or.inr rfl) pe_int ip_add)) (pss_cons (ps_set (i := 6) sc_neutrals_settled.nd rfl (by first | exact Or.inl rfl | exact Or.inr rfl) (pe_ifE (pt_cmpR op_eq (pv 5) pe_str (nomark _)) pe_str pe_str))
      (pss_cons (ps_expr (pe_bm PySem.F.plainAttrs_list PySem.F.slot_list_extend PySem.F.type_list_extend mt_extend (pv 2) (pa_cons (pe_op op_rep (pe_lst (pa_cons (pe_ifE (pt_cmpR op_eq (pv 3) (pv 6) (nomark _)) (pv 6) (pv 1)) pa_nil)) (pv 4)) pa_nil)))
      (pss_cons (ps_expr (pe_bm PySem.F.plainAttrs_list PySem.F.slot_list_append PySem.F.type_list_append mt_append (pv 2) (pa_cons (pv 5) pa_nil)))
      (pss_cons (ps_set (i := 3) sc_neutrals_settled.nd rfl (by first | exact Or.inl rfl | exact Or.inr rfl) (pv 6))
      (pss_one (ps_set (i := 4) sc_neutrals_settled.nd rfl (by first | exact Or.inl rfl | exact Or.inr rfl) pe_int)))))))))
      (pss_one (ps_ret (pe_slice (sl_listK (K := K) rfl) (pv 2) po_none (po_some (pe_un un_neg pe_int))))))))), ?_⟩
    simp only [L2.start, List.map_cons, List.map_nil, List.length_cons, List.length_nil, List.replicate, List.cons_append, List.nil_append, List.append_nil, List.getElem?_cons_zero, List.getElem?_cons_succ, List.set_cons_zero, List.set_cons_succ, wipe, tSeq, tIfS, tTest, tB, tChain, tRet, tRetN, tNext, tC, tVar, tDrop, tAsg, gName, tOp, tUn, rI0, rI, rU, tAnd, tOr, tNot, tAndV, tOrV, tNotV, tIf, tIfE, tIfV, tNil, tCons, tCB, tCall, tIsN, tNotN, t2I, tAug, ipI, tYes, tRaiseX, tTry, tLst, tTup, tDNewK, tDGet, tDIn, tDNotIn, sDPut, tBM, rAppend, rExtend, rPop, rIxL, rIxT, rIn, rEq, rNe, rCat, iList, iTup, iRng1, iRng2, iEnum, iEnumS, iZip, tKGet, tKGet1, tKGet2, tDGet1, tDGet2, tBM0, tFld, sFld, tSl, tNoPart, tPart, rSlL, gSub, rSetL, rRep, tMake, gTup, gCons, gNil, cxOf_K, List.map_append, List.length_map, V.int.injEq, V.bl.injEq, V.str.injEq, V.ref.injEq, Option.some.injEq, List.cons.injEq, exists_eq_left', exists_eq_left, exists_eq_right, exists_and_left, and_assoc, and_true, true_and, Bool.false_eq_true, if_false, if_true, reduceIte, decide_eq_true_eq, exists_const, exists_eq, exists_eq', and_self, exists_prop]
    refine ⟨Nat.zero_le _, fun l hl => ?_⟩
    have s0 : Same H (upd H l (.lst [])) := Same.add hl
    have hz0 : (cs.map nV).length + [nV side].length ≤ sizeLine := by rw [List.length_map, sizeLine_eq]; simp; omega
    refine ⟨_, rfl, _, rfl, (by show 1 ≤ sizeLine; decide), fun p hp => ?_⟩
    have s1 := s0.trans (Same.add (o := .lst [nV side]) hp)
    have hpl : p ≠ l := fun z => by rw [z, upd_same] at hp; cases hp
    have hp0 : H p = none := s0.free hp
    refine ⟨_, _, _, _, rfl, rfl, s1 _ _ hS, upd_same, hz0, fun q hq => ?_⟩
    have s2 := s1.trans (Same.add (o := .lst (cs.map nV ++ [nV side])) hq)
    have hq0 : H q = none := s1.free hq
    have hql : q ≠ l := fun z => by rw [z, upd_ne hpl.symm, upd_same] at hq; cases hq
    have el : cs.map nV ++ [nV side] = (cs ++ [side]).map nV := by rw [List.map_append]; rfl
    refine ⟨_, rfl, ⟨_, SqL.of upd_same⟩, for_list (K := K) (a := q) (xs := (cs ++ [side]).map nV) (fun i σ H' => Same H H' ∧ H' q = some (.lst ((cs ++ [side]).map nV)) ∧ H' l = some (.lst ((((cs ++ [side]).take i).foldl (stN side) ([], side, 0)).1.map nV)) ∧
        ∃ v5 v6, σ = [some (.ref a), some (nV side), some (.ref l), some (nV (((cs ++ [side]).take i).foldl (stN side) ([], side, 0)).2.1), some (.int ((((cs ++ [side]).take i).foldl (stN side) ([], side, 0)).2.2 : Nat)), v5, v6])
      ⟨s2, by rw [upd_same, el], by rw [upd_ne hql.symm, upd_ne hpl.symm, upd_same]; rfl, none, none, rfl⟩ (fun i σ H' _ p => SqL.of p.2.1) ?_ ?_⟩
    · rintro i x σ H' hx ⟨sm, hq1, h1, v5, v6, rfl⟩
      obtain ⟨c, rfl, hc⟩ := map_at hx
      have hi : i < (cs ++ [side]).length := (List.getElem?_eq_some_iff.mp hc).1
      rw [List.length_append] at hi
      simp only [List.length_cons, List.length_nil] at hi
      rw [take_snoc hc, List.foldl_append, List.foldl_cons, List.foldl_nil]
      have hlen := stN_len side ((cs ++ [side]).take i) ([], side, 0)
      rw [List.length_take, List.length_append] at hlen
      simp only [List.length_cons, List.length_nil] at hlen
      generalize ((cs ++ [side]).take i).foldl (stN side) ([], side, 0) = st at h1 hlen
      simp only [L2.start, List.map_cons, List.map_nil, List.length_cons, List.length_nil, List.replicate, List.cons_append, List.nil_append, List.append_nil, List.getElem?_cons_zero, List.getElem?_cons_succ, List.set_cons_zero, List.set_cons_succ, wipe, tSeq, tIfS, tTest, tB, tChain, tRet, tRetN, tNext, tC, tVar, tDrop, tAsg, gName, tOp, tUn, rI0, rI, rU, tAnd, tOr, tNot, tAndV, tOrV, tNotV, tIf, tIfE, tIfV, tNil, tCons, tCB, tCall, tIsN, tNotN, t2I, tAug, ipI, tYes, tRaiseX, tTry, tLst, tTup, tDNewK, tDGet, tDIn, tDNotIn, sDPut, tBM, rAppend, rExtend, rPop, rIxL, rIxT, rIn, rEq, rNe, rCat, iList, iTup, iRng1, iRng2, iEnum, iEnumS, iZip, tKGet, tKGet1, tKGet2, tDGet1, tDGet2, tBM0, tFld, sFld, tSl, tNoPart, tPart, rSlL, gSub, rSetL, rRep, tMake, gTup, gCons, gNil, cxOf_K, List.map_append, List.length_map, V.int.injEq, V.bl.injEq, V.str.injEq, V.ref.injEq, Option.some.injEq, List.cons.injEq, exists_eq_left', exists_eq_left, exists_eq_right, exists_and_left, and_assoc, and_true, true_and, Bool.false_eq_true, if_false, if_true, reduceIte, decide_eq_true_eq, exists_const, exists_eq, exists_eq', and_self, exists_prop]
      refine ⟨_, .inr t_NEUTRAL.sq, rfl, rfl, ?_⟩
      rw [in_neutral]
      have eL : (nV c = V.str "L") ↔ c = .L := nV_eq (d := .L)
      by_cases k1 : Sh32.neutral c = true
      · rw [if_pos k1]
        have e : stN side st c = (st.1, st.2.1, st.2.2 + 1) := by simp [stN, k1]
        rw [e]
        rw [← el] at hq1
        refine ⟨sm, hq1, h1, ?_⟩
        simp
      · rw [if_neg k1]
        have e : stN side st c = (st.1 ++ List.replicate st.2.2 (if st.2.1 = Sh32.sided c then Sh32.sided c else side) ++ [c], Sh32.sided c, 0) := by simp [stN, k1]
        rw [e]
        have ei : (if st.2.1 = Sh32.sided c then nV (Sh32.sided c) else nV side) = nV (if st.2.1 = Sh32.sided c then Sh32.sided c else side) := by split <;> rfl
        simp only [eL, nV_sided, nV_eq, ei]
        generalize (if st.2.1 = Sh32.sided c then Sh32.sided c else side) = y at e
        have hw : st.2.2 ≤ 2000000 := by omega
        have hst : st.1.length ≤ 2000000 := by omega
        refine ⟨rfl, .inl ⟨rfl, _, SqL.of h1⟩, rfl, by decide, fun p1 hp1 => ⟨_, upd_same, by omega, by omega, ?_, fun p2 hp2 => ?_⟩⟩
        · rw [sizeLine_eq]
          simp only [List.length_cons, List.length_nil, Int.toNat_natCast]
          omega
        · have h10 : H p1 = none := sm.free hp1
          have hlp1 : l ≠ p1 := fun z => by rw [← z, h1] at hp1; cases hp1
          have hqp1 : q ≠ p1 := fun z => by rw [← z, hq1] at hp1; cases hp1
          have hp21 : p2 ≠ p1 := fun z => by rw [z, upd_same] at hp2; cases hp2
          have hp2' : H' p2 = none := by rw [upd_ne hp21] at hp2; exact hp2
          have h20 : H p2 = none := sm.free hp2'
          have hlp2 : l ≠ p2 := fun z => by rw [← z, h1] at hp2'; cases hp2'
          have hqp2 : q ≠ p2 := fun z => by rw [← z, hq1] at hp2'; cases hp2'
          have er : (List.replicate ((st.2.2 : Nat) : Int).toNat [nV y]).flatten = (List.replicate st.2.2 y).map nV := by
            rw [Int.toNat_natCast, List.map_replicate]
            induction st.2.2 with
            | zero => rfl
            | succ n ih => rw [List.replicate_succ, List.flatten_cons, ih, List.replicate_succ]; rfl
          refine ⟨_, by rw [upd_ne hlp2, upd_ne hlp1]; exact h1, _, upd_same, ?_, .inl ⟨rfl, _, SqL.of upd_same⟩, _, upd_same, ?_, ?_⟩
          · rw [er, List.length_map, List.length_map, List.length_replicate, sizeLine_eq]
            omega
          · rw [er, List.length_append, List.length_map, List.length_map, List.length_replicate, sizeLine_eq]
            omega
          · refine ⟨(((sm.updn h10).updn h20).updn hl).updn hl, ?_, ?_⟩
            · rw [upd_ne hql, upd_ne hql, upd_ne hqp2, upd_ne hqp1, hq1, el]
            · rw [upd_same, er, List.map_append, List.map_append]
              simp
    · rintro σ H' ⟨sm, hq1, h1, v5, v6, rfl⟩
      simp only [L2.start, List.map_cons, List.map_nil, List.length_cons, List.length_nil, List.replicate, List.cons_append, List.nil_append, List.append_nil, List.getElem?_cons_zero, List.getElem?_cons_succ, List.set_cons_zero, List.set_cons_succ, wipe, tSeq, tIfS, tTest, tB, tChain, tRet, tRetN, tNext, tC, tVar, tDrop, tAsg, gName, tOp, tUn, rI0, rI, rU, tAnd, tOr, tNot, tAndV, tOrV, tNotV, tIf, tIfE, tIfV, tNil, tCons, tCB, tCall, tIsN, tNotN, t2I, tAug, ipI, tYes, tRaiseX, tTry, tLst, tTup, tDNewK, tDGet, tDIn, tDNotIn, sDPut, tBM, rAppend, rExtend, rPop, rIxL, rIxT, rIn, rEq, rNe, rCat, iList, iTup, iRng1, iRng2, iEnum, iEnumS, iZip, tKGet, tKGet1, tKGet2, tDGet1, tDGet2, tBM0, tFld, sFld, tSl, tNoPart, tPart, rSlL, gSub, rSetL, rRep, tMake, gTup, gCons, gNil, cxOf_K, List.map_append, List.length_map, V.int.injEq, V.bl.injEq, V.str.injEq, V.ref.injEq, Option.some.injEq, List.cons.injEq, exists_eq_left', exists_eq_left, exists_eq_right, exists_and_left, and_assoc, and_true, true_and, Bool.false_eq_true, if_false, if_true, reduceIte, decide_eq_true_eq, exists_const, exists_eq, exists_eq', and_self, exists_prop]
      rw [List.length_map, List.take_length] at h1
      refine ⟨_, SqL.of h1, fun p3 hp3 => ?_⟩
      refine h p3 _ (sm.free hp3) (sm.trans (Same.add hp3)) ?_
      rw [upd_same]
      rw [cut_dropLast]
      unfold neutM
      rw [List.map_dropLast]
noncomputable def toR (c : Sh32.Class) : Sh32.Class := if c = .A then .R else c
noncomputable def sideN (l : Nat) : Sh32.Class := if l % 2 = 1 then .R else .L
noncomputable def runM (l : Nat) (cs : List Sh32.Class) : List Sh32.Class := neutM (sideN l) ((digitsM (sideN l) (marksM (sideN l) cs)).map toR)
noncomputable def plain (c : Sh32.Class) : Bool := c == .L || (c == .R || (c == .N || c == .AN))
noncomputable def highM (l : Nat) (c : Sh32.Class) : Int := if l % 2 = 1 then (if c = .R then 0 else 1) else (if c = .L then 0 else if c = .R then 1 else 2)
noncomputable def runLv (l : Nat) (cs : List Sh32.Class) : List Int := (runM l cs).map fun c => (l : Int) + highM l c
noncomputable def spRunLv : Sp := fun vs H Q _ => ∃ (a : Addr) (cs : List Sh32.Class) (l : Nat), vs = [.ref a, .int (l : Int)] ∧ H a = some (.lst (cs.map nV)) ∧ cs.length ≤ 1000000 ∧ l ≤ 1000 ∧ ∀ D H', H D = none → Same H H' → H' D = some (.lst ((runLv l cs).map V.int)) → Q (.ref D) H'
theorem marks_noM (cs : List Sh32.Class) : ∀ s : List Sh32.Class × Sh32.Class, s.2 ≠ .M → (∀ c ∈ s.1, c ≠ .M) → (∀ c ∈ (cs.foldl stM s).1, c ≠ .M) := by
  induction cs with
  | nil => intro s _ h; exact h
  | cons c r ih =>
    intro s h2 h1
    rw [List.foldl_cons]
    have hb : (stM s c).2 ≠ .M := by
      unfold stM
      dsimp only
      by_cases k : c = .M
      · rw [if_neg (fun z => z k)]
        split
        · decide
        · exact h2
      · rw [if_pos k]; exact k
    refine ih _ hb fun d hd => ?_
    have e : (stM s c).1 = s.1 ++ [(stM s c).2] := rfl
    rw [e] at hd
    rcases List.mem_append.mp hd with q | q
    · exact h1 d q
    · rw [List.mem_singleton.mp q]; exact hb
theorem digs_noM (cs : List Sh32.Class) : ∀ s : List Sh32.Class × Sh32.Class, (∀ c ∈ cs, c ≠ .M) → (∀ c ∈ s.1, c ≠ .M) → (∀ c ∈ (cs.foldl stD s).1, c ≠ .M) := by
  induction cs with
  | nil => intro s _ h; exact h
  | cons c r ih =>
    intro s hc h1
    rw [List.foldl_cons]
    refine ih _ (fun d hd => hc d (List.mem_cons_of_mem _ hd)) fun d hd => ?_
    have e : (stD s c).1 = s.1 ++ [if c = .N then digM (stD s c).2 else c] := rfl
    rw [e] at hd
    rcases List.mem_append.mp hd with q | q
    · exact h1 d q
    · rw [List.mem_singleton.mp q]
      split
      · unfold digM; split
        · decide
        · split <;> decide
      · exact hc c List.mem_cons_self
theorem neut_plain (side : Sh32.Class) (hs : plain side = true) (cs : List Sh32.Class) : ∀ s : List Sh32.Class × Sh32.Class × Nat, (∀ c ∈ cs, c ≠ .M ∧ c ≠ .A) → (∀ c ∈ s.1, plain c = true) → (∀ c ∈ (cs.foldl (stN side) s).1, plain c = true) := by
  induction cs with
  | nil => intro s _ h; exact h
  | cons c r ih =>
    intro s hc h1
    rw [List.foldl_cons]
    refine ih _ (fun d hd => hc d (List.mem_cons_of_mem _ hd)) fun d hd => ?_
    unfold stN at hd
    split at hd
    · exact h1 d hd
    · rename_i hn
      rcases List.mem_append.mp hd with q | q
      · rcases List.mem_append.mp q with q | q
        · exact h1 d q
        · rw [List.eq_of_mem_replicate q]
          split
          · unfold Sh32.sided; split <;> rfl
          · exact hs
      · rw [List.mem_singleton.mp q]
        have := hc c List.mem_cons_self
        revert hn this
        cases c <;> simp [Sh32.neutral, Sh32.opens, plain]
theorem run_plain (l : Nat) (cs : List Sh32.Class) : ∀ c ∈ runM l cs, plain c = true := by
  have hs : plain (sideN l) = true := by unfold sideN; split <;> rfl
  have hM : sideN l ≠ .M := by unfold sideN; split <;> decide
  have hA : sideN l ≠ .A := by unfold sideN; split <;> decide
  intro c hc
  unfold runM neutM at hc
  refine neut_plain (sideN l) hs _ ([], sideN l, 0) (fun d hd => ?_) (fun d hd => nomatch hd) c (List.dropLast_subset _ hc)
  rcases List.mem_append.mp hd with q | q
  · obtain ⟨e, he, rfl⟩ := List.mem_map.mp q
    have h1 : e ≠ .M := digs_noM _ ([], sideN l) (fun d hd => marks_noM cs ([], sideN l) hM (fun _ z => absurd z (by simp)) d hd) (fun _ z => absurd z (by simp)) e he
    unfold toR
    split
    · exact ⟨by decide, by decide⟩
    · rename_i h2; exact ⟨h1, h2⟩
  · rw [List.mem_singleton.mp q]; exact ⟨hM, hA⟩
theorem odd_val (c : Sh32.Class) (h : plain c = true) : valV ([(Sum.inr "L", .int 1), (Sum.inr "R", .int 0), (Sum.inr "N", .int 1), (Sum.inr "AN", .int 1)] : List (Key × V)) (Sum.inr (nm c)) = some (.int (if c = .R then 0 else 1)) := by
  cases c <;> first | (revert h; decide) | decide +kernel
theorem even_val (c : Sh32.Class) (h : plain c = true) : valV ([(Sum.inr "L", .int 0), (Sum.inr "R", .int 1), (Sum.inr "N", .int 2), (Sum.inr "AN", .int 2)] : List (Key × V)) (Sum.inr (nm c)) = some (.int (if c = .L then 0 else if c = .R then 1 else 2)) := by
  cases c <;> first | (revert h; decide) | decide +kernel
theorem marks_len (side : Sh32.Class) (cs : List Sh32.Class) : (marksM side cs).length = cs.length := by unfold marksM; rw [stM_len]; simp
theorem digits_len (side : Sh32.Class) (cs : List Sh32.Class) : (digitsM side cs).length = cs.length := by unfold digitsM; rw [stD_len]; simp
theorem sc_run_levels : FnScope ["names", "level", "side", "settled", "name"] ["names", "level"] (defScope s_run_levels) := ⟨rfl, rfl, rfl, by decide +kernel, rfl, by decide +kernel, by decide +kernel⟩
theorem ok_run_levels (G : Gs w K mg ad) : HasOk P w K mg base CX0 3 "run_levels" ["names", "level"] spRunLv := by
  refine G.f_run_levels.ok sc_run_levels (fun vs H Q E h => ?_) (fun f cdv A outer s H vs Q E hr h => ?_)
  · obtain ⟨a, cs, l, rfl, _⟩ := h
    rfl
  · obtain ⟨a, cs, l, rfl, hS, hn, hl, h⟩ := h
    obtain ⟨a_HIGHER_ON_ODD, h_HIGHER_ON_ODD, t_HIGHER_ON_ODD⟩ := G.c_HIGHER_ON_ODD
    obtain ⟨a_HIGHER_ON_EVEN, h_HIGHER_ON_EVEN, t_HIGHER_ON_EVEN⟩ := G.c_HIGHER_ON_EVEN
    refine ⟨_, (pss_cons (ps_set (i := 2) sc_run_levels.nd rfl (by first | exact Or.inl rfl | exact Or.inr rfl) (pe_ifE (pt_cmpR op_eq (pe_op op_mod (pv 1) pe_int) pe_int (nomark _)) pe_str pe_str))
      (pss_cons (ps_set (i := 3) sc_run_levels.nd rfl (by first | exact Or.inl rfl | exact Or.inr rfl) (pe_c0 (ok_digits_settled G) (hr.mono (by decide)) (pa_cons (pe_c0 (ok_marks_settled G) (hr.mono (by decide)) (pa_cons (pv 0) (pa_cons (pv 2) pa_nil))) (pa_cons (pv 2) pa_nil))))
      (pss_cons (ps_setLc (i := 3) rfl sc_run_levels.nd rfl rfl (sw_true rfl rfl rfl (by decide +kernel)) (pi_listK (K := K) rfl (pv 3)) (own := [("name", 4)]) (blkOk_by rfl) (fun s H C cl fp => (pg_name (i := 4) sc_run_levels.nd rfl (by first | exact Or.inl rfl | exact Or.inr rfl))) (fun s H C cl fp => pts_nil) (fun s H C cl fp => (pe_ifE (pt_cmpR op_eq (pv 4) pe_str (nomark _)) pe_str (pv 4))))
      (pss_cons (ps_set (i := 3) sc_run_levels.nd rfl (by first | exact Or.inl rfl | exact Or.inr rfl) (pe_c0 (ok_neutrals_settled G) (hr.mono (by decide)) (pa_cons (pv 3) (pa_cons (pv 2) pa_nil))))
      (pss_cons (ps_if (pt_cmpR op_eq (pe_op op_mod (pv 1) pe_int) pe_int (nomark _)) (pss_one (ps_ret (pe_lc rfl sc_run_levels.nd (pi_listK (K := K) rfl (pv 3)) (own := [("name", 4)]) (blkOk_by rfl) (fun s H C cl fp => (pg_name (i := 4) sc_run_levels.nd rfl (by first | exact Or.inl rfl | exact Or.inr rfl))) (fun s H C cl fp => pts_nil) (fun s H C cl fp => (pe_op op_add (pv 1) (pe_kget (w := w) (K := K) rfl rfl (pe_gr h_HIGHER_ON_ODD) (pv 4) (fun _ _ => rfl))))))) pss_nil)
      (pss_one (ps_ret (pe_lc rfl sc_run_levels.nd (pi_listK (K := K) rfl (pv 3)) (own := [("name", 4)]) (blkOk_by rfl) (fun s H C cl fp => (pg_name (i := 4) sc_run_levels.nd rfl (by first | exact Or.inl rfl | exact Or.inr rfl))) (fun s H C cl fp => pts_nil) (fun s H C cl fp => (pe_op op_add (pv 1) (pe_kget (w := w) (K := K) rfl rfl (pe_gr h_HIGHER_ON_EVEN) (pv 4) (fun _ _ => rfl)))))))))))), ?_⟩
    simp only [L2.start, List.map_cons, List.map_nil, List.length_cons, List.length_nil, List.replicate, List.cons_append, List.nil_append, List.append_nil, List.getElem?_cons_zero, List.getElem?_cons_succ, List.set_cons_zero, List.set_cons_succ, wipe, tSeq, tIfS, tTest, tB, tChain, tRet, tRetN, tNext, tC, tVar, tDrop, tAsg, gName, tOp, tUn, rI0, rI, rU, tAnd, tOr, tNot, tAndV, tOrV, tNotV, tIf, tIfE, tIfV, tNil, tCons, tCB, tCall, tIsN, tNotN, t2I, tAug, ipI, tYes, tRaiseX, tTry, tLst, tTup, tDNewK, tDGet, tDIn, tDNotIn, sDPut, tBM, rAppend, rExtend, rPop, rIxL, rIxT, rIn, rEq, rNe, rCat, iList, iTup, iRng1, iRng2, iEnum, iEnumS, iZip, tKGet, tKGet1, tKGet2, tDGet1, tDGet2, tBM0, tFld, sFld, tSl, tNoPart, tPart, rSlL, gSub, rSetL, rRep, tMake, gTup, gCons, gNil, cxOf_K, List.map_append, List.length_map, V.int.injEq, V.bl.injEq, V.str.injEq, V.ref.injEq, Option.some.injEq, List.cons.injEq, exists_eq_left', exists_eq_left, exists_eq_right, exists_and_left, and_assoc, and_true, true_and, Bool.false_eq_true, if_false, if_true, reduceIte, decide_eq_true_eq, exists_const, exists_eq, exists_eq', and_self, exists_prop]
    have ep : ((l : Int) % 2 = 1) ↔ l % 2 = 1 := by omega
    have es : (if (l : Int) % 2 = 1 then V.str "R" else V.str "L") = nV (sideN l) := by
      unfold sideN
      by_cases k : l % 2 = 1
      · rw [if_pos (ep.mpr k), if_pos k]; rfl
      · rw [if_neg fun z => k (ep.mp z), if_neg k]; rfl
    rw [es]
    refine ⟨by decide, rfl, a, cs, sideN l, rfl, hS, hn, fun d1 H1 n1 s1 e1 => ⟨d1, _, sideN l, rfl, e1, by rw [marks_len]; exact hn, fun d2 H2 n2 s2 e2 => ?_⟩⟩
    have l2 : (digitsM (sideN l) (marksM (sideN l) cs)).length ≤ 1000000 := by rw [digits_len, marks_len]; exact hn
    generalize hds : digitsM (sideN l) (marksM (sideN l) cs) = ds at e2 l2
    refine tlc_map (fun v => if v = V.str "A" then V.str "R" else v) (fun _ r => ⟨_, rfl, _, rfl, ⟨_, SqL.of e2⟩, r⟩) (runs_list (SqL.of e2)) (by rw [List.length_map, sizeLine_eq]; omega) (fun i x H' hx s T hT => ?_) (fun D H3 hD s3 hD' => ?_)
    · obtain ⟨c, rfl, hc⟩ := map_at hx
      simp only [L2.start, List.map_cons, List.map_nil, List.length_cons, List.length_nil, List.replicate, List.cons_append, List.nil_append, List.append_nil, List.getElem?_cons_zero, List.getElem?_cons_succ, List.set_cons_zero, List.set_cons_succ, wipe, tSeq, tIfS, tTest, tB, tChain, tRet, tRetN, tNext, tC, tVar, tDrop, tAsg, gName, tOp, tUn, rI0, rI, rU, tAnd, tOr, tNot, tAndV, tOrV, tNotV, tIf, tIfE, tIfV, tNil, tCons, tCB, tCall, tIsN, tNotN, t2I, tAug, ipI, tYes, tRaiseX, tTry, tLst, tTup, tDNewK, tDGet, tDIn, tDNotIn, sDPut, tBM, rAppend, rExtend, rPop, rIxL, rIxT, rIn, rEq, rNe, rCat, iList, iTup, iRng1, iRng2, iEnum, iEnumS, iZip, tKGet, tKGet1, tKGet2, tDGet1, tDGet2, tBM0, tFld, sFld, tSl, tNoPart, tPart, rSlL, gSub, rSetL, rRep, tMake, gTup, gCons, gNil, cxOf_K, List.map_append, List.length_map, V.int.injEq, V.bl.injEq, V.str.injEq, V.ref.injEq, Option.some.injEq, List.cons.injEq, exists_eq_left', exists_eq_left, exists_eq_right, exists_and_left, and_assoc, and_true, true_and, Bool.false_eq_true, if_false, if_true, reduceIte, decide_eq_true_eq, exists_const, exists_eq, exists_eq', and_self, exists_prop]
      exact ⟨rfl, hT _ (Same.refl _)⟩
    have em : (ds.map nV).map (fun v => if v = V.str "A" then V.str "R" else v) = (ds.map toR).map nV := by
      rw [List.map_map, List.map_map]
      refine List.map_congr_left fun c _ => ?_
      show (if nV c = V.str "A" then V.str "R" else nV c) = nV (toR c)
      unfold toR
      by_cases k : c = .A
      · rw [if_pos (show nV c = V.str "A" from nV_eq (d := .A) |>.mpr k), if_pos k]; rfl
      · rw [if_neg (show ¬ nV c = V.str "A" from fun z => k ((nV_eq (d := .A)).mp z)), if_neg k]
    rw [em] at hD'
    refine ⟨D, _, sideN l, rfl, hD', by rw [List.length_map]; exact l2, fun d4 H4 n4 s4 e4 => ⟨by decide, rfl, ?_⟩⟩
    have er : neutM (sideN l) (ds.map toR) = runM l cs := by unfold runM; rw [hds]
    have hp := run_plain l cs
    rw [er] at e4
    have h0 : ∀ D H', H4 D = none → Same H4 H' → H' D = some (.lst ((runLv l cs).map V.int)) → Q (.ref D) H' := fun D H' n sm hd => h D H' ((((s1.trans s2).trans s3).trans s4).free n) ((((s1.trans s2).trans s3).trans s4).trans sm) hd
    have hrl : (runM l cs).length ≤ 2000000 := by
      unfold runM
      rw [hds]
      have := stN_len (sideN l) (ds.map toR ++ [sideN l]) ([], sideN l, 0)
      unfold neutM
      rw [List.length_dropLast]
      simp only [List.length_append, List.length_map, List.length_cons, List.length_nil] at this
      omega
    clear h
    by_cases k : l % 2 = 1
    · rw [if_pos (ep.mpr k)]
      refine tlc_map (fun v => .int ((l : Int) + (if v = nV .R then 0 else 1))) (fun _ r => ⟨_, rfl, _, rfl, ⟨_, SqL.of e4⟩, r⟩) (runs_list (SqL.of e4)) (by rw [List.length_map, sizeLine_eq]; omega) (fun i x H' hx s T hT => ?_) (fun D5 H5 hD5 s5 hD5' => ?_)
      · obtain ⟨c, rfl, hc⟩ := map_at hx
        simp only [L2.start, List.map_cons, List.map_nil, List.length_cons, List.length_nil, List.replicate, List.cons_append, List.nil_append, List.append_nil, List.getElem?_cons_zero, List.getElem?_cons_succ, List.set_cons_zero, List.set_cons_succ, wipe, tSeq, tIfS, tTest, tB, tChain, tRet, tRetN, tNext, tC, tVar, tDrop, tAsg, gName, tOp, tUn, rI0, rI, rU, tAnd, tOr, tNot, tAndV, tOrV, tNotV, tIf, tIfE, tIfV, tNil, tCons, tCB, tCall, tIsN, tNotN, t2I, tAug, ipI, tYes, tRaiseX, tTry, tLst, tTup, tDNewK, tDGet, tDIn, tDNotIn, sDPut, tBM, rAppend, rExtend, rPop, rIxL, rIxT, rIn, rEq, rNe, rCat, iList, iTup, iRng1, iRng2, iEnum, iEnumS, iZip, tKGet, tKGet1, tKGet2, tDGet1, tDGet2, tBM0, tFld, sFld, tSl, tNoPart, tPart, rSlL, gSub, rSetL, rRep, tMake, gTup, gCons, gNil, cxOf_K, List.map_append, List.length_map, V.int.injEq, V.bl.injEq, V.str.injEq, V.ref.injEq, Option.some.injEq, List.cons.injEq, exists_eq_left', exists_eq_left, exists_eq_right, exists_and_left, and_assoc, and_true, true_and, Bool.false_eq_true, if_false, if_true, reduceIte, decide_eq_true_eq, exists_const, exists_eq, exists_eq', and_self, exists_prop]
        refine ⟨_, t_HIGHER_ON_ODD, Sum.inr (nm c), rfl, _, odd_val c (hp c (List.mem_of_getElem? hc)), _, rfl, ?_⟩
        have := hT H' (Same.refl _)
        simp only [nV_eq] at this
        exact this
      · refine h0 D5 H5 hD5 s5 ?_
        rw [hD5', List.map_map]
        unfold runLv
        rw [List.map_map]
        congr 2
        refine List.map_congr_left fun c _ => ?_
        show V.int ((l : Int) + (if nV c = nV .R then 0 else 1)) = V.int ((l : Int) + highM l c)
        simp only [nV_eq]
        unfold highM
        rw [if_pos k]
    · rw [if_neg fun z => k (ep.mp z)]
      refine tlc_map (fun v => .int ((l : Int) + (if v = nV .L then 0 else if v = nV .R then 1 else 2))) (fun _ r => ⟨_, rfl, _, rfl, ⟨_, SqL.of e4⟩, r⟩) (runs_list (SqL.of e4)) (by rw [List.length_map, sizeLine_eq]; omega) (fun i x H' hx s T hT => ?_) (fun D5 H5 hD5 s5 hD5' => ?_)
      · obtain ⟨c, rfl, hc⟩ := map_at hx
        simp only [L2.start, List.map_cons, List.map_nil, List.length_cons, List.length_nil, List.replicate, List.cons_append, List.nil_append, List.append_nil, List.getElem?_cons_zero, List.getElem?_cons_succ, List.set_cons_zero, List.set_cons_succ, wipe, tSeq, tIfS, tTest, tB, tChain, tRet, tRetN, tNext, tC, tVar, tDrop, tAsg, gName, tOp, tUn, rI0, rI, rU, tAnd, tOr, tNot, tAndV, tOrV, tNotV, tIf, tIfE, tIfV, tNil, tCons, tCB, tCall, tIsN, tNotN, t2I, tAug, ipI, tYes, tRaiseX, tTry, tLst, tTup, tDNewK, tDGet, tDIn, tDNotIn, sDPut, tBM, rAppend, rExtend, rPop, rIxL, rIxT, rIn, rEq, rNe, rCat, iList, iTup, iRng1, iRng2, iEnum, iEnumS, iZip, tKGet, tKGet1, tKGet2, tDGet1, tDGet2, tBM0, tFld, sFld, tSl, tNoPart, tPart, rSlL, gSub, rSetL, rRep, tMake, gTup, gCons, gNil, cxOf_K, List.map_append, List.length_map, V.int.injEq, V.bl.injEq, V.str.injEq, V.ref.injEq, Option.some.injEq, List.cons.injEq, exists_eq_left', exists_eq_left, exists_eq_right, exists_and_left, and_assoc, and_true, true_and, Bool.false_eq_true, if_false, if_true, reduceIte, decide_eq_true_eq, exists_const, exists_eq, exists_eq', and_self, exists_prop]
        refine ⟨_, t_HIGHER_ON_EVEN, Sum.inr (nm c), rfl, _, even_val c (hp c (List.mem_of_getElem? hc)), _, rfl, ?_⟩
        have := hT H' (Same.refl _)
        simp only [nV_eq] at this
        exact this
      · refine h0 D5 H5 hD5 s5 ?_
        rw [hD5', List.map_map]
        unfold runLv
        rw [List.map_map]
        congr 2
        refine List.map_congr_left fun c _ => ?_
        show V.int ((l : Int) + (if nV c = nV .L then 0 else if nV c = nV .R then 1 else 2)) = V.int ((l : Int) + highM l c)
        simp only [nV_eq]
        unfold highM
        rw [if_neg k]
end
section
variable {P : Program} {w : World} {K : PySem.W.Frag} {mg : Str → Option Value} {base : Heap} {ad : Ad}
noncomputable def stP (s : List (Nat × Nat) × Nat) (p : Sh32.Class × Nat) : List (Nat × Nat) × Nat := if p.1 = .B then (s.1 ++ [(s.2, p.2 + 1)], p.2 + 1) else s
noncomputable def parasSt (cs : List Sh32.Class) : List (Nat × Nat) × Nat := cs.zipIdx.foldl stP ([], 0)
noncomputable def parasM (cs : List Sh32.Class) : List (Nat × Nat) := (parasSt cs).1 ++ (if (parasSt cs).2 < cs.length then [((parasSt cs).2, cs.length)] else [])
noncomputable def PairAt (H : Hp) (r : Nat × Nat) (y : V) : Prop := ∃ a, y = .ref a ∧ H a = some (.tup [.int (r.1 : Nat), .int (r.2 : Nat)])
theorem PairAt.mono {H H' : Hp} {r : Nat × Nat} {y : V} (s : SameT H H') (p : PairAt H r y) : PairAt H' r y := let ⟨a, e, h⟩ := p; ⟨a, e, s _ _ h⟩
noncomputable def spParas : Sp := fun vs H Q _ => ∃ (a : Addr) (cs : List Sh32.Class), vs = [.ref a] ∧ H a = some (.lst (cs.map nV)) ∧ cs.length ≤ 1000000 ∧ ∀ D ys H', H D = none → Same H H' → H' D = some (.lst ys) → Paired (PairAt H') (parasM cs) ys → Q (.ref D) H'
theorem stP_len (cs : List (Sh32.Class × Nat)) : ∀ s, ((cs.foldl stP s).1).length ≤ s.1.length + cs.length := by
  induction cs with
  | nil => intro s; exact Nat.le_refl _
  | cons c r ih =>
    intro s
    rw [List.foldl_cons]
    refine Nat.le_trans (ih _) ?_
    unfold stP
    split <;> simp <;> omega
theorem zip_at {α : Type} {l : List α} {i : Nat} {x : α} (h : l[i]? = some x) : l.zipIdx[i]? = some (x, i) := by
  rw [List.getElem?_zipIdx, h]; simp
theorem sc_paragraphs_of : FnScope ["classes", "found", "begin", "place", "name"] ["classes"] (defScope s_paragraphs_of) := ⟨rfl, rfl, rfl, by decide +kernel, rfl, by decide +kernel, by decide +kernel⟩
theorem ok_paragraphs_of (G : Gs w K mg ad) : HasOk P w K mg base CX0 1 "paragraphs_of" ["classes"] spParas := by
  refine G.f_paragraphs_of.ok sc_paragraphs_of (fun vs H Q E h => ?_) (fun f cdv A outer s H vs Q E hr h => ?_)
  · obtain ⟨a, cs, rfl, _⟩ := h
    rfl
  · obtain ⟨a, cs, rfl, hS, hn, h⟩ := h
    refine ⟨_, (pss_cons (ps_set (i := 1) sc_paragraphs_of.nd rfl (by first | exact Or.inl rfl | exact Or.inr rfl) (pe_lst pa_nil))
      (pss_cons (ps_set (i := 2) sc_paragraphs_of.nd rfl (by first | exact Or.inl rfl | exact Or.inr rfl) pe_int)
      (pss_cons (ps_for PassesOwn.never rfl (pi_enumS (K := K) rfl rfl G.b_enumerate (pa_cons (pv 0) pa_nil) (pk_cons pe_int pk_nil)) (pg_tupK (K := K) (n := 2) rfl rfl (pgs_cons (pg_name (i := 3) sc_paragraphs_of.nd rfl (by first | exact Or.inl rfl | exact Or.inr rfl)) (pgs_cons (pg_name (i := 4) sc_paragraphs_of.nd rfl (by first | exact Or.inl rfl | exact Or.inr rfl)) pgs_nil)))
      (pss_one (ps_if (pt_cmpR op_eq (pv 4) pe_str (nomark _)) (pss_cons (ps_expr (pe_bm PySem.F.plainAttrs_list PySem.F.slot_list_append PySem.F.type_list_append mt_append (pv 1) (pa_cons (pe_tup (pa_cons (pv 2) (pa_cons (pv 3) pa_nil))) pa_nil)))
      (pss_one (ps_set (i := 2) sc_paragraphs_of.nd rfl (by first | exact Or.inl rfl | exact Or.inr rfl) (pv 3)))) pss_nil)))
      (pss_cons (ps_if (pt_cmpR op_lt (pv 2) (pe_callB (call_len_seqK (K := K) rfl) (by rfl) G.b_len PySem.boot_len (pa_cons (pv 0) pa_nil)) (nomark _)) (pss_one (ps_expr (pe_bm PySem.F.plainAttrs_list PySem.F.slot_list_append PySem.F.type_list_append mt_append (pv 1) (pa_cons (pe_tup (pa_cons (pv 2) (pa_cons (pe_callB (call_len_seqK (K := K) rfl) (by rfl) G.b_len PySem.boot_len (pa_cons (pv 0) pa_nil)) pa_nil))) pa_nil)))) pss_nil)
      (pss_one (ps_ret (pv 1))))))), ?_⟩
    simp only [L2.start, List.map_cons, List.map_nil, List.length_cons, List.length_nil, List.replicate, List.cons_append, List.nil_append, List.append_nil, List.getElem?_cons_zero, List.getElem?_cons_succ, List.set_cons_zero, List.set_cons_succ, wipe, tSeq, tIfS, tTest, tB, tChain, tRet, tRetN, tNext, tC, tVar, tDrop, tAsg, gName, tOp, tUn, rI0, rI, rU, tAnd, tOr, tNot, tAndV, tOrV, tNotV, tIf, tIfE, tIfV, tNil, tCons, tCB, tCall, tIsN, tNotN, t2I, tAug, ipI, tYes, tRaiseX, tTry, tLst, tTup, tDNewK, tDGet, tDIn, tDNotIn, sDPut, tBM, rAppend, rExtend, rPop, rIxL, rIxT, rIn, rEq, rNe, rCat, iList, iTup, iRng1, iRng2, iEnum, iEnumS, iZip, tKGet, tKGet1, tKGet2, tDGet1, tDGet2, tBM0, tFld, sFld, tSl, tNoPart, tPart, rSlL, gSub, rSetL, rRep, tMake, gTup, gCons, gNil, cxOf_K, List.map_append, List.length_map, V.int.injEq, V.bl.injEq, V.str.injEq, V.ref.injEq, Option.some.injEq, List.cons.injEq, exists_eq_left', exists_eq_left, exists_eq_right, exists_and_left, and_assoc, and_true, true_and, Bool.false_eq_true, if_false, if_true, reduceIte, decide_eq_true_eq, exists_const, exists_eq, exists_eq', and_self, exists_prop]
    refine ⟨Nat.zero_le _, fun l hl => ?_⟩
    have fin2 : ∀ (H' : Hp) (ys : List V) (r : Nat × Nat) (T : Addr) (rs : List (Nat × Nat)), Same H H' → H' l = some (.lst ys) → Paired (PairAt H') rs ys → H' T = none →
        Same H (upd (upd H' T (.tup [.int (r.1 : Nat), .int (r.2 : Nat)])) l (.lst (ys ++ [.ref T]))) ∧ Paired (PairAt (upd (upd H' T (.tup [.int (r.1 : Nat), .int (r.2 : Nat)])) l (.lst (ys ++ [.ref T])))) (rs ++ [r]) (ys ++ [.ref T]) := fun H' ys r T rs sm h1 pr hT => by
      have hlT : l ≠ T := fun z => by rw [← z, h1] at hT; cases hT
      have st : SameT H' (upd (upd H' T (.tup [.int (r.1 : Nat), .int (r.2 : Nat)])) l (.lst (ys ++ [.ref T]))) := ((Same.add hT).t).chg (by rw [upd_ne hlT]; exact h1) (by intro _ z; cases z)
      refine ⟨((sm.trans (Same.add hT)).updn hl), (Paired.mapP pr fun _ _ q => q.mono st).snoc ⟨T, rfl, by rw [upd_ne hlT.symm, upd_same]⟩⟩
    refine ⟨_, rfl, _, _, rfl, rfl, SqL.of (Same.add hl _ _ hS), for_enumS2 (K := K) (a := a) (xs := cs.map nV) (fun i σ H' => Same H H' ∧ (∃ ys, H' l = some (.lst ys) ∧ Paired (PairAt H') ((cs.zipIdx.take i).foldl stP ([], 0)).1 ys) ∧ ∃ v3 v4, σ = [some (.ref a), some (.ref l), some (.int (((cs.zipIdx.take i).foldl stP ([], 0)).2 : Nat)), v3, v4])
      ⟨Same.add hl, ⟨[], upd_same, .nil⟩, none, none, rfl⟩ (fun i σ H' _ p => SqL.of (p.1 _ _ hS)) ?_ ?_⟩
    · rintro i x σ H1 H' hx ⟨sm1, ⟨ys, h1, pr⟩, v3, v4, rfl⟩ sm'
      obtain ⟨c, rfl, hc⟩ := map_at hx
      have sm := sm1.trans sm'
      replace h1 := sm' _ _ h1
      replace pr := Paired.mapP pr fun _ _ q => q.mono sm'.t
      have hi : i < cs.length := (List.getElem?_eq_some_iff.mp hc).1
      rw [take_snoc (zip_at hc), List.foldl_append, List.foldl_cons, List.foldl_nil]
      have hlen := stP_len (cs.zipIdx.take i) ([], 0)
      rw [List.length_take] at hlen
      generalize (cs.zipIdx.take i).foldl stP ([], 0) = st at pr hlen
      have hz : ys.length < sizeLine := by rw [← pr.length, sizeLine_eq]; simp at hlen; omega
      have eB : (nV c = V.str "B") ↔ c = .B := nV_eq (d := .B)
      simp only [L2.start, List.map_cons, List.map_nil, List.length_cons, List.length_nil, List.replicate, List.cons_append, List.nil_append, List.append_nil, List.getElem?_cons_zero, List.getElem?_cons_succ, List.set_cons_zero, List.set_cons_succ, wipe, tSeq, tIfS, tTest, tB, tChain, tRet, tRetN, tNext, tC, tVar, tDrop, tAsg, gName, tOp, tUn, rI0, rI, rU, tAnd, tOr, tNot, tAndV, tOrV, tNotV, tIf, tIfE, tIfV, tNil, tCons, tCB, tCall, tIsN, tNotN, t2I, tAug, ipI, tYes, tRaiseX, tTry, tLst, tTup, tDNewK, tDGet, tDIn, tDNotIn, sDPut, tBM, rAppend, rExtend, rPop, rIxL, rIxT, rIn, rEq, rNe, rCat, iList, iTup, iRng1, iRng2, iEnum, iEnumS, iZip, tKGet, tKGet1, tKGet2, tDGet1, tDGet2, tBM0, tFld, sFld, tSl, tNoPart, tPart, rSlL, gSub, rSetL, rRep, tMake, gTup, gCons, gNil, cxOf_K, List.map_append, List.length_map, V.int.injEq, V.bl.injEq, V.str.injEq, V.ref.injEq, Option.some.injEq, List.cons.injEq, exists_eq_left', exists_eq_left, exists_eq_right, exists_and_left, and_assoc, and_true, true_and, Bool.false_eq_true, if_false, if_true, reduceIte, decide_eq_true_eq, exists_const, exists_eq, exists_eq', and_self, exists_prop]
      refine ⟨rfl, ?_⟩
      simp only [eB]
      by_cases k : c = .B
      · rw [if_pos k]
        refine ⟨.inl ⟨rfl, _, SqL.of h1⟩, by decide, fun T hT => ?_⟩
        have hlT : l ≠ T := fun z => by rw [← z, h1] at hT; cases hT
        obtain ⟨f1, f2⟩ := fin2 H' ys (st.2, i + 1) T st.1 sm h1 pr hT
        refine ⟨_, by rw [upd_ne hlT]; exact h1, hz, f1, ?_⟩
        have e : stP st (c, i) = (st.1 ++ [(st.2, i + 1)], i + 1) := by simp [stP, k]
        rw [e]
        exact ⟨⟨_, upd_same, f2⟩, rfl⟩
      · rw [if_neg k]
        have e : stP st (c, i) = st := by simp [stP, k]
        rw [e]
        exact ⟨sm, ⟨ys, h1, pr⟩, rfl⟩
    · rintro σ H' ⟨sm, ⟨ys, h1, pr⟩, v3, v4, rfl⟩
      have et : cs.zipIdx.take (cs.map nV).length = cs.zipIdx := List.take_of_length_le (by rw [List.length_zipIdx, List.length_map]; exact Nat.le_refl _)
      rw [et] at pr ⊢
      have hlen := stP_len cs.zipIdx ([], 0)
      rw [List.length_zipIdx] at hlen
      have e0 : cs.zipIdx.foldl stP ([], 0) = parasSt cs := rfl
      rw [e0] at pr hlen ⊢
      have hz : ys.length < sizeLine := by rw [← pr.length, sizeLine_eq]; simp at hlen; omega
      simp only [L2.start, List.map_cons, List.map_nil, List.length_cons, List.length_nil, List.replicate, List.cons_append, List.nil_append, List.append_nil, List.getElem?_cons_zero, List.getElem?_cons_succ, List.set_cons_zero, List.set_cons_succ, wipe, tSeq, tIfS, tTest, tB, tChain, tRet, tRetN, tNext, tC, tVar, tDrop, tAsg, gName, tOp, tUn, rI0, rI, rU, tAnd, tOr, tNot, tAndV, tOrV, tNotV, tIf, tIfE, tIfV, tNil, tCons, tCB, tCall, tIsN, tNotN, t2I, tAug, ipI, tYes, tRaiseX, tTry, tLst, tTup, tDNewK, tDGet, tDIn, tDNotIn, sDPut, tBM, rAppend, rExtend, rPop, rIxL, rIxT, rIn, rEq, rNe, rCat, iList, iTup, iRng1, iRng2, iEnum, iEnumS, iZip, tKGet, tKGet1, tKGet2, tDGet1, tDGet2, tBM0, tFld, sFld, tSl, tNoPart, tPart, rSlL, gSub, rSetL, rRep, tMake, gTup, gCons, gNil, cxOf_K, List.map_append, List.length_map, V.int.injEq, V.bl.injEq, V.str.injEq, V.ref.injEq, Option.some.injEq, List.cons.injEq, exists_eq_left', exists_eq_left, exists_eq_right, exists_and_left, and_assoc, and_true, true_and, Bool.false_eq_true, if_false, if_true, reduceIte, decide_eq_true_eq, exists_const, exists_eq, exists_eq', and_self, exists_prop]
      refine ⟨_, .inl (SqL.of (sm _ _ hS)), ?_⟩
      rw [List.length_map]
      have hq : ∀ D ys H', H D = none → Same H H' → H' D = some (.lst ys) → Paired (PairAt H') (parasM cs) ys → Q (.ref D) H' := h
      unfold parasM at hq
      by_cases k : (parasSt cs).2 < cs.length
      · rw [if_pos (by omega)]
        rw [if_pos k] at hq
        refine ⟨.inl ⟨rfl, _, SqL.of h1⟩, _, .inl (SqL.of (sm _ _ hS)), by decide, fun T hT => ?_⟩
        rw [List.length_map]
        have hlT : l ≠ T := fun z => by rw [← z, h1] at hT; cases hT
        obtain ⟨f1, f2⟩ := fin2 H' ys ((parasSt cs).2, cs.length) T (parasSt cs).1 sm h1 pr hT
        exact ⟨_, by rw [upd_ne hlT]; exact h1, hz, hq l _ _ hl f1 upd_same f2⟩
      · rw [if_neg (by omega)]
        rw [if_neg k, List.append_nil] at hq
        exact hq l ys H' hl sm h1 pr
end
section
variable {P : Program} {w : World} {K : PySem.W.Frag} {mg : Str → Option Value} {base : Heap} {ad : Ad}
noncomputable def encS (S : List (Int × Int)) : List (Key × V) := S.map fun p => (Sum.inl p.1, V.int p.2)
theorem val_enc (k : Int) : ∀ S : List (Int × Int), valV (encS S) (Sum.inl k) = (S.lookup k).map V.int
  | [] => rfl
  | p :: S => by
    have ih := val_enc k S
    unfold valV encS at ih ⊢
    rw [List.map_cons, List.find?_cons, List.lookup_cons]
    by_cases h : p.1 = k
    · have h1 : decide ((Sum.inl p.1 : Key) = Sum.inl k) = true := by rw [h]; exact decide_eq_true rfl
      have h2 : (k == p.1) = true := by rw [h]; exact beq_self_eq_true k
      simp only [h1, h2]
      rfl
    · have h1 : decide ((Sum.inl p.1 : Key) = Sum.inl k) = false := decide_eq_false fun z => h (Sum.inl.inj z)
      have h2 : (k == p.1) = false := by rw [beq_eq_false_iff_ne]; exact fun z => h z.symm
      simp only [h1, h2]
      exact ih
noncomputable def lastI (W : List Int) : Int := W.getLastD (-1)
theorem at_last (W : List Int) (h : W ≠ []) : atI (W.map V.int) (-1) = some (.int (lastI W)) := by
  obtain ⟨l, x, rfl⟩ : ∃ l x, W = l ++ [x] := ⟨W.dropLast, W.getLast h, (List.dropLast_concat_getLast h).symm⟩
  rw [List.map_append]
  have := atI_last (l.map V.int) (V.int x)
  simp only [List.map_cons, List.map_nil]
  rw [this]
  unfold lastI
  simp
noncomputable def stS (s : List (Int × Int) × List Int) (p : Sh32.Class × Nat) : List (Int × Int) × List Int :=
  if Sh32.opens p.1 = true then (s.1, s.2 ++ [(p.2 : Int)]) else if p.1 = .PI ∧ 1 < s.2.length then (s.1, s.2.dropLast)
  else if Sh32.strong p.1 = true ∧ s.1.lookup (lastI s.2) = none then (s.1 ++ [(lastI s.2, if p.1 = .L then 0 else 1)], s.2) else s
noncomputable def sidesSt (cs : List Sh32.Class) : List (Int × Int) × List Int := cs.zipIdx.foldl stS ([], [-1])
noncomputable def sidesM (cs : List Sh32.Class) : List (Int × Int) := (sidesSt cs).1
theorem stS_ok (cs : List (Sh32.Class × Nat)) : ∀ s, s.2 ≠ [] → (cs.foldl stS s).2 ≠ [] ∧ ((cs.foldl stS s).1).length ≤ s.1.length + cs.length ∧ ((cs.foldl stS s).2).length ≤ s.2.length + cs.length := by
  induction cs with
  | nil => intro s h; exact ⟨h, Nat.le_refl _, Nat.le_refl _⟩
  | cons c r ih =>
    intro s h
    rw [List.foldl_cons]
    have h0 : (stS s c).2 ≠ [] ∧ (stS s c).1.length ≤ s.1.length + 1 ∧ (stS s c).2.length ≤ s.2.length + 1 := by
      unfold stS
      split
      · exact ⟨by simp, by simp, by simp⟩
      · split
        · rename_i q
          refine ⟨fun z => ?_, by simp, by simp; omega⟩
          have := congrArg List.length z
          rw [List.length_dropLast] at this
          simp at this
          omega
        · split
          · exact ⟨h, by simp, by simp⟩
          · exact ⟨h, by omega, by omega⟩
    obtain ⟨a, b, c'⟩ := ih _ h0.1
    refine ⟨a, ?_, ?_⟩ <;> simp only [List.length_cons] <;> omega
noncomputable def spSides : Sp := fun vs H Q _ => ∃ (a : Addr) (cs : List Sh32.Class), vs = [.ref a] ∧ H a = some (.lst (cs.map nV)) ∧ cs.length ≤ 1000000 ∧ ∀ D H', H D = none → Same H H' → H' D = some (.dK (encS (sidesM cs))) → Q (.ref D) H'
theorem sc_sides_of : FnScope ["classes", "sides", "within", "place", "name"] ["classes"] (defScope s_sides_of) := ⟨rfl, rfl, rfl, by decide +kernel, rfl, by decide +kernel, by decide +kernel⟩
theorem ok_sides_of (G : Gs w K mg ad) : HasOk P w K mg base CX0 1 "sides_of" ["classes"] spSides := by
  refine G.f_sides_of.ok sc_sides_of (fun vs H Q E h => ?_) (fun f cdv A outer s H vs Q E hr h => ?_)
  · obtain ⟨a, cs, rfl, _⟩ := h
    rfl
  · obtain ⟨a, cs, rfl, hS, hn, h⟩ := h
    have hu := hu_of hr
    obtain ⟨a_PUSHING, h_PUSHING, t_PUSHING⟩ := G.c_PUSHING
    obtain ⟨a_STRONG, h_STRONG, t_STRONG⟩ := G.c_STRONG
    refine ⟨_, (pss_cons (ps_set (i := 1) sc_sides_of.nd rfl (by first | exact Or.inl rfl | exact Or.inr rfl) pe_dnewK)
      (pss_cons (ps_set (i := 2) sc_sides_of.nd rfl (by first | exact Or.inl rfl | exact Or.inr rfl) (pe_lst (pa_cons (pe_gi G.c_WHOLE) pa_nil)))
      (pss_cons (ps_for PassesOwn.never rfl (pi_enumK (K := K) rfl rfl G.b_enumerate (pa_cons (pv 0) pa_nil)) (pg_tupK (K := K) (n := 2) rfl rfl (pgs_cons (pg_name (i := 3) sc_sides_of.nd rfl (by first | exact Or.inl rfl | exact Or.inr rfl)) (pgs_cons (pg_name (i := 4) sc_sides_of.nd rfl (by first | exact Or.inl rfl | exact Or.inr rfl)) pgs_nil)))
      (pss_one (ps_if (pt_cmpR (op_in_seqK (K := K) rfl) (pv 4) (pe_gr h_PUSHING) (by with_unfolding_all rfl)) (pss_one (ps_expr (pe_bm PySem.F.plainAttrs_list PySem.F.slot_list_append PySem.F.type_list_append mt_append (pv 2) (pa_cons (pv 3) pa_nil)))) (pss_one (ps_if ((pw_and (pt_cmpR op_eq (pv 4) pe_str (nomark _)) (pw_and1 (pt_cmpR op_gt (pe_callB (call_len_seqK (K := K) rfl) (by rfl) G.b_len PySem.boot_len (pa_cons (pv 2) pa_nil)) pe_int (nomark _))))).pt (pss_one (ps_expr (pe_bm0 PySem.F.plainAttrs_list PySem.F.slot_list_pop PySem.F.type_list_pop mt_pop (pv 2)))) (pss_one (ps_if ((pw_and (pt_cmpR (op_in_seqK (K := K) rfl) (pv 4) (pe_gr h_STRONG) (by with_unfolding_all rfl)) (pw_and1 (pt_cmp (pc_dnotin hu (pe_ix (ix_listK (K := K) rfl) (pv 2) (pe_un un_neg pe_int) (fun _ _ => rfl)) (pv 1)))))).pt (pss_one (ps_dput hu (pv 1) (pe_ix (ix_listK (K := K) rfl) (pv 2) (pe_un un_neg pe_int) (fun _ _ => rfl)) (pe_ifE (pt_cmpR op_eq (pv 4) pe_str (nomark _)) pe_int pe_int) rfl)) pss_nil)))))))
      (pss_one (ps_ret (pv 1)))))), ?_⟩
    simp only [L2.start, List.map_cons, List.map_nil, List.length_cons, List.length_nil, List.replicate, List.cons_append, List.nil_append, List.append_nil, List.getElem?_cons_zero, List.getElem?_cons_succ, List.set_cons_zero, List.set_cons_succ, wipe, tSeq, tIfS, tTest, tB, tChain, tRet, tRetN, tNext, tC, tVar, tDrop, tAsg, gName, tOp, tUn, rI0, rI, rU, tAnd, tOr, tNot, tAndV, tOrV, tNotV, tIf, tIfE, tIfV, tNil, tCons, tCB, tCall, tIsN, tNotN, t2I, tAug, ipI, tYes, tRaiseX, tTry, tLst, tTup, tDNewK, tDGet, tDIn, tDNotIn, sDPut, tBM, rAppend, rExtend, rPop, rIxL, rIxT, rIn, rEq, rNe, rCat, iList, iTup, iRng1, iRng2, iEnum, iEnumS, iZip, tKGet, tKGet1, tKGet2, tDGet1, tDGet2, tBM0, tFld, sFld, tSl, tNoPart, tPart, rSlL, gSub, rSetL, rRep, tMake, gTup, gCons, gNil, cxOf_K, List.map_append, List.length_map, V.int.injEq, V.bl.injEq, V.str.injEq, V.ref.injEq, Option.some.injEq, List.cons.injEq, exists_eq_left', exists_eq_left, exists_eq_right, exists_and_left, and_assoc, and_true, true_and, Bool.false_eq_true, if_false, if_true, reduceIte, decide_eq_true_eq, exists_const, exists_eq, exists_eq', and_self, exists_prop]
    refine fun d hd => ⟨(by show 1 ≤ sizeLine; decide), fun l hl => ?_⟩
    have hld : l ≠ d := fun z => by rw [z, upd_same] at hl; cases hl
    have hl0 : H l = none := by rw [upd_ne hld] at hl; exact hl
    have s0 : Same H (upd (upd H d (.dK [])) l (.lst [.int (-1)])) := (Same.add hd).trans (Same.add hl)
    refine ⟨_, rfl, _, _, rfl, SqL.of (s0 _ _ hS), for_enum2 (K := K) (a := a) (xs := cs.map nV) (fun i σ H' => Same H H' ∧ H' d = some (.dK (encS ((cs.zipIdx.take i).foldl stS ([], [-1])).1)) ∧ H' l = some (.lst (((cs.zipIdx.take i).foldl stS ([], [-1])).2.map V.int)) ∧ ∃ v3 v4, σ = [some (.ref a), some (.ref d), some (.ref l), v3, v4])
      ⟨s0, by rw [upd_ne hld.symm, upd_same]; rfl, upd_same, none, none, rfl⟩ (fun i σ H' _ p => SqL.of (p.1 _ _ hS)) ?_ ?_⟩
    · rintro i x σ H1 H' hx ⟨sm1, h1, h2, v3, v4, rfl⟩ sm'
      obtain ⟨c, rfl, hc⟩ := map_at hx
      have sm := sm1.trans sm'
      replace h1 := sm' _ _ h1
      replace h2 := sm' _ _ h2
      have hi : i < cs.length := (List.getElem?_eq_some_iff.mp hc).1
      rw [take_snoc (zip_at hc), List.foldl_append, List.foldl_cons, List.foldl_nil]
      have hlen := stS_ok (cs.zipIdx.take i) ([], [-1]) (by simp)
      rw [List.length_take] at hlen
      generalize (cs.zipIdx.take i).foldl stS ([], [-1]) = st at h1 h2 hlen
      obtain ⟨hne, hl1, hl2⟩ := hlen
      simp only [List.length_nil, List.length_cons] at hl1 hl2
      have hz1 : (encS st.1).length < sizeLine := by unfold encS; rw [List.length_map, sizeLine_eq]; omega
      have hz2 : (st.2.map V.int).length < sizeLine := by rw [List.length_map, sizeLine_eq]; omega
      have eP : (nV c = V.str "PI") ↔ c = .PI := nV_eq (d := .PI)
      have eL : (nV c = V.str "L") ↔ c = .L := nV_eq (d := .L)
      simp only [L2.start, List.map_cons, List.map_nil, List.length_cons, List.length_nil, List.replicate, List.cons_append, List.nil_append, List.append_nil, List.getElem?_cons_zero, List.getElem?_cons_succ, List.set_cons_zero, List.set_cons_succ, wipe, tSeq, tIfS, tTest, tB, tChain, tRet, tRetN, tNext, tC, tVar, tDrop, tAsg, gName, tOp, tUn, rI0, rI, rU, tAnd, tOr, tNot, tAndV, tOrV, tNotV, tIf, tIfE, tIfV, tNil, tCons, tCB, tCall, tIsN, tNotN, t2I, tAug, ipI, tYes, tRaiseX, tTry, tLst, tTup, tDNewK, tDGet, tDIn, tDNotIn, sDPut, tBM, rAppend, rExtend, rPop, rIxL, rIxT, rIn, rEq, rNe, rCat, iList, iTup, iRng1, iRng2, iEnum, iEnumS, iZip, tKGet, tKGet1, tKGet2, tDGet1, tDGet2, tBM0, tFld, sFld, tSl, tNoPart, tPart, rSlL, gSub, rSetL, rRep, tMake, gTup, gCons, gNil, cxOf_K, List.map_append, List.length_map, V.int.injEq, V.bl.injEq, V.str.injEq, V.ref.injEq, Option.some.injEq, List.cons.injEq, exists_eq_left', exists_eq_left, exists_eq_right, exists_and_left, and_assoc, and_true, true_and, Bool.false_eq_true, if_false, if_true, reduceIte, decide_eq_true_eq, exists_const, exists_eq, exists_eq', and_self, exists_prop]
      refine ⟨_, .inr t_PUSHING.sq, rfl, rfl, ?_⟩
      rw [in_pushing]
      simp only [eP, eL]
      by_cases k1 : Sh32.opens c = true
      · rw [if_pos k1]
        have e : stS st (c, i) = (st.1, st.2 ++ [(i : Int)]) := by simp [stS, k1]
        rw [e]
        refine ⟨.inl ⟨rfl, _, SqL.of h2⟩, _, h2, hz2, sm.updn hl0, by rw [upd_ne hld.symm]; exact h1, ?_⟩
        rw [upd_same, List.map_append]
        rfl
      · rw [if_neg k1]
        refine ⟨rfl, ?_⟩
        have third : ¬ (c = .PI ∧ 1 < st.2.length) → ∃ x, (SqL K H' a_STRONG x ∨ SqT K H' a_STRONG x) ∧ flatV (nV c) = true ∧ x.all flatV = true ∧
            if inV (nV c) x = true then ∃ x, SqL K H' l x ∧ ∃ x_1, atI x (-1) = some x_1 ∧ ∃ x, DGet H' d x_1 x ∧
              if (!x.isSome) = true then scal (nV c) (V.str "L") = true ∧ ∃ x, SqL K H' l x ∧ ∃ x_2, atI x (-1) = some x_2 ∧ ∃ x, DPut H' d x_2 (if c = Sh32.Class.L then V.int 0 else V.int 1) x ∧ Same H x ∧ x d = some (HO.dK (encS (stS st (c, i)).fst)) ∧ x l = some (HO.lst (List.map V.int (stS st (c, i)).snd))
              else Same H H' ∧ H' d = some (HO.dK (encS (stS st (c, i)).fst)) ∧ H' l = some (HO.lst (List.map V.int (stS st (c, i)).snd))
            else Same H H' ∧ H' d = some (HO.dK (encS (stS st (c, i)).fst)) ∧ H' l = some (HO.lst (List.map V.int (stS st (c, i)).snd)) := fun kp => by
          refine ⟨_, .inr t_STRONG.sq, rfl, rfl, ?_⟩
          rw [in_strong']
          by_cases k3 : Sh32.strong c = true
          · rw [if_pos k3]
            refine ⟨_, SqL.of h2, _, at_last _ hne, _, DGet.k (k := Sum.inl (lastI st.2)) h1, ?_⟩
            rw [val_enc]
            cases k4 : st.1.lookup (lastI st.2) with
            | none =>
              have e : stS st (c, i) = (st.1 ++ [(lastI st.2, if c = .L then 0 else 1)], st.2) := by simp [stS, k1, kp, k3, k4]
              rw [if_pos (by rfl)]
              refine ⟨rfl, _, SqL.of h2, _, at_last _ hne, _, DPut.k (k := Sum.inl (lastI st.2)) h1 hz1, sm.updn hd, ?_, by rw [e, upd_ne hld]; exact h2⟩
              rw [e, upd_same, putK_new _ (by rw [val_enc, k4]; rfl)]
              unfold encS
              rw [List.map_append]
              by_cases k5 : c = .L
              · simp [k5]
              · simp [k5]
            | some z =>
              have e : stS st (c, i) = st := by simp [stS, k1, kp, k3, k4]
              rw [if_neg (by simp)]
              rw [e]
              exact ⟨sm, h1, h2⟩
          · rw [if_neg k3]
            have e : stS st (c, i) = st := by simp [stS, k1, kp, k3]
            rw [e]
            exact ⟨sm, h1, h2⟩
        by_cases k2 : c = .PI
        · rw [if_pos k2]
          refine ⟨_, .inl (SqL.of h2), ?_⟩
          rw [List.length_map]
          by_cases k3 : 1 < st.2.length
          · rw [if_pos (by omega)]
            have e : stS st (c, i) = (st.1, st.2.dropLast) := by simp only [stS]; rw [if_neg k1, if_pos ⟨k2, k3⟩]
            rw [e]
            refine ⟨.inl ⟨rfl, _, SqL.of h2⟩, _, h2, _, List.getElem?_eq_getElem (by rw [List.length_map]; omega), sm.updn hl0, by rw [upd_ne hld.symm]; exact h1, ?_⟩
            rw [upd_same, List.map_dropLast]
          · rw [if_neg (by omega)]
            exact third fun z => k3 z.2
        · rw [if_neg k2]
          exact third fun z => k2 z.1
    · rintro σ H' ⟨sm, h1, h2, v3, v4, rfl⟩
      have et : cs.zipIdx.take (cs.map nV).length = cs.zipIdx := List.take_of_length_le (by rw [List.length_zipIdx, List.length_map]; exact Nat.le_refl _)
      rw [et] at h1
      simp only [L2.start, List.map_cons, List.map_nil, List.length_cons, List.length_nil, List.replicate, List.cons_append, List.nil_append, List.append_nil, List.getElem?_cons_zero, List.getElem?_cons_succ, List.set_cons_zero, List.set_cons_succ, wipe, tSeq, tIfS, tTest, tB, tChain, tRet, tRetN, tNext, tC, tVar, tDrop, tAsg, gName, tOp, tUn, rI0, rI, rU, tAnd, tOr, tNot, tAndV, tOrV, tNotV, tIf, tIfE, tIfV, tNil, tCons, tCB, tCall, tIsN, tNotN, t2I, tAug, ipI, tYes, tRaiseX, tTry, tLst, tTup, tDNewK, tDGet, tDIn, tDNotIn, sDPut, tBM, rAppend, rExtend, rPop, rIxL, rIxT, rIn, rEq, rNe, rCat, iList, iTup, iRng1, iRng2, iEnum, iEnumS, iZip, tKGet, tKGet1, tKGet2, tDGet1, tDGet2, tBM0, tFld, sFld, tSl, tNoPart, tPart, rSlL, gSub, rSetL, rRep, tMake, gTup, gCons, gNil, cxOf_K, List.map_append, List.length_map, V.int.injEq, V.bl.injEq, V.str.injEq, V.ref.injEq, Option.some.injEq, List.cons.injEq, exists_eq_left', exists_eq_left, exists_eq_right, exists_and_left, and_assoc, and_true, true_and, Bool.false_eq_true, if_false, if_true, reduceIte, decide_eq_true_eq, exists_const, exists_eq, exists_eq', and_self, exists_prop]
      exact h d H' hd sm h1
noncomputable def aboveI (l o : Int) : Int := if (l + 1) % 2 = o then l + 1 else l + 2
noncomputable def spAbove : Sp := fun vs H Q _ => ∃ l o, vs = [.int l, .int o] ∧ Q (.int (aboveI l o)) H
theorem sc_level_above : FnScope ["level", "odd"] ["level", "odd"] (defScope s_level_above) := ⟨rfl, rfl, rfl, by decide +kernel, rfl, by decide +kernel, by decide +kernel⟩
theorem ok_level_above (G : Gs w K mg ad) : HasOk P w K mg base CX0 1 "level_above" ["level", "odd"] spAbove := by
  refine G.f_level_above.ok sc_level_above (fun vs H Q E h => ?_) (fun f cdv A outer s H vs Q E hr h => ?_)
  · obtain ⟨l, o, rfl, _⟩ := h
    rfl
  · obtain ⟨l, o, rfl, h⟩ := h
    refine ⟨_, (pss_one (ps_ret (pe_ifV (pt_cmpR op_eq (pe_op op_mod (pe_op op_add (pv 0) pe_int) pe_int) (pv 1) (nomark _)) (pe_op op_add (pv 0) pe_int) (pe_op op_add (pv 0) pe_int)))), ?_⟩
    simp only [L2.start, List.map_cons, List.map_nil, List.length_cons, List.length_nil, List.replicate, List.cons_append, List.nil_append, List.append_nil, List.getElem?_cons_zero, List.getElem?_cons_succ, List.set_cons_zero, List.set_cons_succ, wipe, tSeq, tIfS, tTest, tB, tChain, tRet, tRetN, tNext, tC, tVar, tDrop, tAsg, gName, tOp, tUn, rI0, rI, rU, tAnd, tOr, tNot, tAndV, tOrV, tNotV, tIf, tIfE, tIfV, tNil, tCons, tCB, tCall, tIsN, tNotN, t2I, tAug, ipI, tYes, tRaiseX, tTry, tLst, tTup, tDNewK, tDGet, tDIn, tDNotIn, sDPut, tBM, rAppend, rExtend, rPop, rIxL, rIxT, rIn, rEq, rNe, rCat, iList, iTup, iRng1, iRng2, iEnum, iEnumS, iZip, tKGet, tKGet1, tKGet2, tDGet1, tDGet2, tBM0, tFld, sFld, tSl, tNoPart, tPart, rSlL, gSub, rSetL, rRep, tMake, gTup, gCons, gNil, cxOf_K, List.map_append, List.length_map, V.int.injEq, V.bl.injEq, V.str.injEq, V.ref.injEq, Option.some.injEq, List.cons.injEq, exists_eq_left', exists_eq_left, exists_eq_right, exists_and_left, and_assoc, and_true, true_and, Bool.false_eq_true, if_false, if_true, reduceIte, decide_eq_true_eq, exists_const, exists_eq, exists_eq', and_self, exists_prop]
    unfold aboveI at h
    refine ⟨by decide, rfl, _, ?_, h⟩
    by_cases k : (l + 1) % 2 = o
    · rw [if_pos k, if_pos k]
    · rw [if_neg k, if_neg k]
noncomputable def pushI (c : Sh32.Class) (l ps : Int) : Int := if c = .FI then aboveI l ps else aboveI l (if c = .RI then 1 else 0)
noncomputable def spPush : Sp := fun vs H Q _ => ∃ c l ps, vs = [nV c, .int l, .int ps] ∧ Q (.int (pushI c l ps)) H
theorem sc_level_pushed : FnScope ["name", "level", "part_side"] ["name", "level", "part_side"] (defScope s_level_pushed) := ⟨rfl, rfl, rfl, by decide +kernel, rfl, by decide +kernel, by decide +kernel⟩
theorem ok_level_pushed (G : Gs w K mg ad) : HasOk P w K mg base CX0 2 "level_pushed" ["name", "level", "part_side"] spPush := by
  refine G.f_level_pushed.ok sc_level_pushed (fun vs H Q E h => ?_) (fun f cdv A outer s H vs Q E hr h => ?_)
  · obtain ⟨c, l, ps, rfl, _⟩ := h
    rfl
  · obtain ⟨c, l, ps, rfl, h⟩ := h
    refine ⟨_, (pss_cons (ps_if (pt_cmpR op_eq (pv 0) pe_str (nomark _)) (pss_one (ps_ret (pe_c0 (ok_level_above G) (hr.mono (by decide)) (pa_cons (pv 1) (pa_cons (pv 2) pa_nil))))) pss_nil)
      (pss_one (ps_ret (pe_c0 (ok_level_above G) (hr.mono (by decide)) (pa_cons (pv 1) (pa_cons (pe_ifE (pt_cmpR op_eq (pv 0) pe_str (nomark _)) pe_int pe_int) pa_nil)))))), ?_⟩
    simp only [L2.start, List.map_cons, List.map_nil, List.length_cons, List.length_nil, List.replicate, List.cons_append, List.nil_append, List.append_nil, List.getElem?_cons_zero, List.getElem?_cons_succ, List.set_cons_zero, List.set_cons_succ, wipe, tSeq, tIfS, tTest, tB, tChain, tRet, tRetN, tNext, tC, tVar, tDrop, tAsg, gName, tOp, tUn, rI0, rI, rU, tAnd, tOr, tNot, tAndV, tOrV, tNotV, tIf, tIfE, tIfV, tNil, tCons, tCB, tCall, tIsN, tNotN, t2I, tAug, ipI, tYes, tRaiseX, tTry, tLst, tTup, tDNewK, tDGet, tDIn, tDNotIn, sDPut, tBM, rAppend, rExtend, rPop, rIxL, rIxT, rIn, rEq, rNe, rCat, iList, iTup, iRng1, iRng2, iEnum, iEnumS, iZip, tKGet, tKGet1, tKGet2, tDGet1, tDGet2, tBM0, tFld, sFld, tSl, tNoPart, tPart, rSlL, gSub, rSetL, rRep, tMake, gTup, gCons, gNil, cxOf_K, List.map_append, List.length_map, V.int.injEq, V.bl.injEq, V.str.injEq, V.ref.injEq, Option.some.injEq, List.cons.injEq, exists_eq_left', exists_eq_left, exists_eq_right, exists_and_left, and_assoc, and_true, true_and, Bool.false_eq_true, if_false, if_true, reduceIte, decide_eq_true_eq, exists_const, exists_eq, exists_eq', and_self, exists_prop]
    have eF : (nV c = V.str "FI") ↔ c = .FI := nV_eq (d := .FI)
    have eR : (nV c = V.str "RI") ↔ c = .RI := nV_eq (d := .RI)
    simp only [eF, eR]
    unfold pushI at h
    refine ⟨rfl, ?_⟩
    by_cases k : c = .FI
    · rw [if_pos k] at h ⊢
      exact ⟨l, ps, rfl, h⟩
    · rw [if_neg k] at h ⊢
      refine ⟨rfl, l, _, ?_, h⟩
      by_cases k2 : c = .RI
      · simp [k2]
      · simp [k2]
end
section
variable {P : Program} {w : World} {K : PySem.W.Frag} {mg : Str → Option Value} {base : Heap} {ad : Ad}
noncomputable def runF (lv : Int) (pl : Addr) : List (Str × V) := [("level", .int lv), ("places", .ref pl)]
theorem runF_put (v : V) (y : V) : putF "places" y (putF "level" v []) = ([("level", v), ("places", y)] : List (Str × V)) := by
  show (if ("level" : Str) = "places" then [(("level" : Str), y)] else (("level" : Str), v) :: putF "places" y []) = _
  rw [if_neg (by decide +kernel)]
  rfl
theorem runF_level (lv : Int) (pl : Addr) : (runF lv pl).lookup ("level" : Str) = some (.int lv) := rfl
theorem runF_places (lv : Int) (pl : Addr) : (runF lv pl).lookup ("places" : Str) = some (.ref pl) := rfl
noncomputable def spRunInit (C : Addr) : Sp := fun vs H Q _ => ∃ (p dx : Addr) (lv : Int), vs = [.ref p, .int lv] ∧ H p = some (.ins C dx []) ∧ ∀ (pl : Addr) (H' : Hp), H pl = none → H' p = some (.ins C dx (runF lv pl)) → H' pl = some (.lst []) → (∀ b o, H b = some o → b ≠ p → H' b = some o) → Q .non H'
theorem sc_Run___init__ : FnScope ["self", "level"] ["self", "level"] (defScope s_Run___init__) := ⟨rfl, rfl, rfl, by decide +kernel, rfl, by decide +kernel, by decide +kernel⟩
theorem ok_Run___init__ (G : Gs w K mg ad) : HasMk P w K mg base 1 "Run" ad.Run ["self", "level"] (spRunInit ad.Run) := by
  obtain ⟨hm, cl, ⟨fI, fd, M, F, b⟩, n1, n2⟩ := G.k_Run
  refine ⟨hm, fI, fd, M, b, F.ok sc_Run___init__ (fun vs H Q E h => ?_) (fun cdv A outer s H vs Q E hr h => ?_)⟩
  · obtain ⟨p, dx, lv, rfl, _⟩ := h
    rfl
  · obtain ⟨p, dx, lv, rfl, hp, h⟩ := h
    refine ⟨_, (pss_cons (ps_fldK (K := K) rfl (pv 0) (pv 1) rfl)
      (pss_one (ps_fldK (K := K) rfl (pv 0) (pe_lst pa_nil) rfl))), ?_⟩
    refine ⟨_, rfl, _, rfl, p, ad.Run, dx, [], rfl, hp, cl, n1, by decide, Nat.zero_le _, fun pl hpl => ?_⟩
    have hne : p ≠ pl := fun z => by rw [← z, upd_same] at hpl; cases hpl
    have hpl0 : H pl = none := by rw [upd_ne hne.symm] at hpl; exact hpl
    refine ⟨_, rfl, p, ad.Run, dx, _, rfl, by rw [upd_ne hne, upd_same], cl, n2, (by show 1 < 1000; decide), ?_⟩
    refine h pl _ hpl0 ?_ ?_ fun b o e hb => ?_
    · rw [upd_same]
      exact congrArg (fun z => some (HO.ins ad.Run dx z)) (runF_put _ _)
    · rw [upd_ne hne.symm, upd_same]
    · rw [upd_ne hb, upd_ne (ne_of_none e hpl0), upd_ne hb]
      exact e
theorem made_run {C : Addr} {H : Hp} {lv : Int} {x dx : Addr} {Q : VK} {E : XK} (nx : H x = none) (nd : H dx = none) (h : ∀ pl H2, H pl = none → pl ≠ x → Same H H2 → H2 x = some (.ins C dx (runF lv pl)) → H2 pl = some (.lst []) → Q .non H2) :
    spRunInit C [.ref x, .int lv] (upd (upd H dx (.own x)) x (.ins C dx [])) Q E := by
  refine ⟨x, dx, lv, rfl, upd_same, fun pl H2 hpl hx hp k => ?_⟩
  have hpx : pl ≠ x := fun z => by rw [z, upd_same] at hpl; cases hpl
  have hpl' := hpl
  rw [upd_ne hpx] at hpl'
  have hpd : pl ≠ dx := fun z => by rw [z, upd_same] at hpl'; cases hpl'
  rw [upd_ne hpd] at hpl'
  exact h pl H2 hpl' hpx (Same.made nx nd k) hx hp
structure RunsH (C : Addr) (H : Hp) (lr ls lw : Addr) (as pls : List Addr) (rs : List (Nat × List Nat)) (stk : List Nat) (wt : List Bool) : Prop where
  la : as.length = rs.length
  lp : pls.length = rs.length
  nd : (lr :: ls :: lw :: pls).Nodup
  hr : H lr = some (.lst (as.map V.ref))
  hs : H ls = some (.lst (stk.map fun j => .ref (as.getD j 0)))
  hw : H lw = some (.lst (wt.map V.bl))
  ob : ∀ (j : Nat) a, as[j]? = some a → ∃ dx r pl, rs[j]? = some r ∧ pls[j]? = some pl ∧ H a = some (.ins C dx (runF (r.1 : Nat) pl)) ∧ H pl = some (.lst (r.2.map fun (k : Nat) => V.int k))
section
variable {C : Addr} {H H' : Hp} {lr ls lw : Addr} {as pls : List Addr} {rs : List (Nat × List Nat)} {stk : List Nat} {wt : List Bool}
theorem RunsH.same (R : RunsH C H lr ls lw as pls rs stk wt) (s : Same H H') : RunsH C H' lr ls lw as pls rs stk wt :=
  ⟨R.la, R.lp, R.nd, s _ _ R.hr, s _ _ R.hs, s _ _ R.hw, fun j a e => let ⟨dx, r, pl, e1, e2, e3, e4⟩ := R.ob j a e; ⟨dx, r, pl, e1, e2, s _ _ e3, s _ _ e4⟩⟩
theorem RunsH.nds (R : RunsH C H lr ls lw as pls rs stk wt) : lr ≠ ls ∧ lr ≠ lw ∧ ls ≠ lw ∧ (∀ p ∈ pls, p ≠ lr ∧ p ≠ ls ∧ p ≠ lw) ∧ pls.Nodup := by
  have h := R.nd
  simp only [List.nodup_cons, List.mem_cons, not_or] at h
  obtain ⟨⟨h1, h2, h3⟩, ⟨h4, h5⟩, h6, h7⟩ := h
  exact ⟨h1, h2, h4, fun p hp => ⟨fun z => h3 (z ▸ hp), fun z => h5 (z ▸ hp), fun z => h6 (z ▸ hp)⟩, h7⟩
theorem RunsH.wait (R : RunsH C H lr ls lw as pls rs stk wt) (wt' : List Bool) : RunsH C (upd H lw (.lst (wt'.map V.bl))) lr ls lw as pls rs stk wt' := by
  obtain ⟨n1, n2, n3, n4, n5⟩ := R.nds
  refine ⟨R.la, R.lp, R.nd, by rw [upd_ne n2]; exact R.hr, by rw [upd_ne n3]; exact R.hs, upd_same, fun j a e => ?_⟩
  obtain ⟨dx, r, pl, e1, e2, e3, e4⟩ := R.ob j a e
  exact ⟨dx, r, pl, e1, e2, by rw [upd_ne (ne_of e3 R.hw (by intro z; cases z))]; exact e3, by rw [upd_ne (n4 pl (List.mem_of_getElem? e2)).2.2]; exact e4⟩
theorem RunsH.stack (R : RunsH C H lr ls lw as pls rs stk wt) (stk' : List Nat) : RunsH C (upd H ls (.lst (stk'.map fun j => .ref (as.getD j 0)))) lr ls lw as pls rs stk' wt := by
  obtain ⟨n1, n2, n3, n4, n5⟩ := R.nds
  refine ⟨R.la, R.lp, R.nd, by rw [upd_ne n1]; exact R.hr, upd_same, by rw [upd_ne n3.symm]; exact R.hw, fun j a e => ?_⟩
  obtain ⟨dx, r, pl, e1, e2, e3, e4⟩ := R.ob j a e
  exact ⟨dx, r, pl, e1, e2, by rw [upd_ne (ne_of e3 R.hs (by intro z; cases z))]; exact e3, by rw [upd_ne (n4 pl (List.mem_of_getElem? e2)).2.1]; exact e4⟩
theorem RunsH.place (R : RunsH C H lr ls lw as pls rs stk wt) {u i : Nat} {r : Nat × List Nat} {pl : Addr} (hr : rs[u]? = some r) (hp : pls[u]? = some pl) :
    RunsH C (upd H pl (.lst (r.2.map (fun (k : Nat) => V.int k) ++ [.int (i : Nat)]))) lr ls lw as pls (rs.set u (r.1, r.2 ++ [i])) stk wt := by
  obtain ⟨n1, n2, n3, n4, n5⟩ := R.nds
  obtain ⟨m1, m2, m3⟩ := n4 pl (List.mem_of_getElem? hp)
  have hu : u < rs.length := (List.getElem?_eq_some_iff.mp hr).1
  refine ⟨by rw [List.length_set]; exact R.la, by rw [List.length_set]; exact R.lp, R.nd, by rw [upd_ne m1.symm]; exact R.hr, by rw [upd_ne m2.symm]; exact R.hs, by rw [upd_ne m3.symm]; exact R.hw, fun j a e => ?_⟩
  obtain ⟨dx, r', pl', e1, e2, e3, e4⟩ := R.ob j a e
  have hpl : H pl = some (.lst (r.2.map fun (k : Nat) => V.int k)) := by
    have ha : as[u]? = some (as[u]'(by rw [R.la]; exact hu)) := List.getElem?_eq_getElem _
    obtain ⟨_, r2, pl2, f1, f2, _, f4⟩ := R.ob u _ ha
    rw [hr] at f1; cases f1
    rw [hp] at f2; cases f2
    exact f4
  have hapl : a ≠ pl := ne_of e3 hpl (by intro z; cases z)
  by_cases hj : j = u
  · subst hj
    rw [hr] at e1; cases e1
    rw [hp] at e2; cases e2
    exact ⟨dx, (r.1, r.2 ++ [i]), pl, List.getElem?_set_self hu, hp, by rw [upd_ne hapl]; exact e3, by rw [upd_same, List.map_append]; rfl⟩
  · have hne : pl' ≠ pl := fun z => hj (nd_ix n5 e2 (by rw [z]; exact hp))
    exact ⟨dx, r', pl', by rw [List.getElem?_set_ne (fun z => hj z.symm)]; exact e1, e2, by rw [upd_ne hapl]; exact e3, by rw [upd_ne hne]; exact e4⟩
theorem RunsH.more (R : RunsH C H lr ls lw as pls rs stk wt) {x dx pl : Addr} {lv : Nat} {H2 : Hp} (nx : H x = none) (np : H pl = none) (npx : pl ≠ x) (sm : Same H H2) (hx : H2 x = some (.ins C dx (runF (lv : Nat) pl))) (hp : H2 pl = some (.lst [])) (hst : ∀ j ∈ stk, j < rs.length) :
    RunsH C (upd (upd H2 ls (.lst ((stk.map fun j => .ref (as.getD j 0)) ++ [.ref x]))) lr (.lst (as.map V.ref ++ [.ref x]))) lr ls lw (as ++ [x]) (pls ++ [pl]) (rs ++ [(lv, [])]) (stk ++ [rs.length]) wt := by
  obtain ⟨n1, n2, n3, n4, n5⟩ := R.nds
  have fr : ∀ b o, H b = some o → b ≠ pl := fun b o e => ne_of_none e np
  have f1 := fr _ _ R.hr
  have f2 := fr _ _ R.hs
  have f3 := fr _ _ R.hw
  have fp : ∀ p ∈ pls, p ≠ pl := fun p hpm => by
    obtain ⟨j, hj, e⟩ := List.getElem_of_mem hpm
    have ha : as[j]? = some (as[j]'(by rw [R.la, ← R.lp]; exact hj)) := List.getElem?_eq_getElem _
    obtain ⟨_, _, pl2, _, f2, _, f4⟩ := R.ob j _ ha
    have e2 : pls[j]? = some p := by rw [List.getElem?_eq_getElem hj, e]
    rw [e2] at f2; cases f2
    exact fr _ _ f4
  have xs1 : x ≠ ls := (ne_of_none R.hs nx).symm
  have xr1 : x ≠ lr := (ne_of_none R.hr nx).symm
  refine ⟨by simp [R.la], by simp [R.lp], ?_, ?_, ?_, ?_, fun j a e => ?_⟩
  · simp only [List.nodup_cons, List.mem_cons, List.mem_append, List.mem_singleton, not_or]
    refine ⟨⟨n1, n2, fun z => (n4 lr z).1 rfl, f1, by simp⟩, ⟨n3, fun z => (n4 ls z).2.1 rfl, f2, by simp⟩, ⟨fun z => (n4 lw z).2.2 rfl, f3, by simp⟩, ?_⟩
    rw [List.nodup_append]
    exact ⟨n5, by simp, fun a ha b hb => by rw [List.mem_singleton.mp hb]; exact fp a ha⟩
  · rw [upd_same, List.map_append]; rfl
  · rw [upd_ne n1.symm, upd_same, List.map_append]
    have e1 : (stk.map fun j => V.ref (as.getD j 0)) = stk.map fun j => V.ref ((as ++ [x]).getD j 0) := List.map_congr_left fun j hj => by
      have := hst j hj
      rw [List.getD_eq_getElem?_getD, List.getD_eq_getElem?_getD, List.getElem?_append_left (by rw [R.la]; exact this)]
    have e2 : (as ++ [x]).getD rs.length 0 = x := by rw [List.getD_eq_getElem?_getD, ← R.la, List.getElem?_concat_length]; rfl
    rw [e1]
    simp only [List.map_cons, List.map_nil, e2]
  · rw [upd_ne n2.symm, upd_ne n3.symm]; exact sm _ _ R.hw
  · by_cases hj : j < as.length
    · rw [List.getElem?_append_left hj] at e
      obtain ⟨dy, r', pl', e1, e2, e3, e4⟩ := R.ob j a e
      have m := n4 pl' (List.mem_of_getElem? e2)
      refine ⟨dy, r', pl', by rw [List.getElem?_append_left (by rw [← R.la]; exact hj)]; exact e1, by rw [List.getElem?_append_left (by rw [R.lp, ← R.la]; exact hj)]; exact e2, ?_, ?_⟩
      · rw [upd_ne (ne_of e3 R.hr (by intro z; cases z)), upd_ne (ne_of e3 R.hs (by intro z; cases z))]
        exact sm _ _ e3
      · rw [upd_ne m.1, upd_ne m.2.1]
        exact sm _ _ e4
    · have hjl : j = as.length := by
        have := (List.getElem?_eq_some_iff.mp e).1
        simp at this
        omega
      subst hjl
      rw [List.getElem?_concat_length] at e
      cases e
      refine ⟨dx, (lv, []), pl, by rw [R.la, List.getElem?_concat_length], by rw [R.la, ← R.lp, List.getElem?_concat_length], ?_, ?_⟩
      · rw [upd_ne xr1, upd_ne xs1]; exact hx
      · rw [upd_ne f1.symm, upd_ne f2.symm]; exact hp
end
end
section
variable {P : Program} {w : World} {K : PySem.W.Frag} {mg : Str → Option Value} {base : Heap} {ad : Ad}
noncomputable abbrev RSt := List (Nat × List Nat) × List Nat × List Bool
noncomputable def stR (S : List (Int × Int)) (s : RSt) (p : Sh32.Class × Nat) : RSt :=
  let stk := if p.1 = .PI ∧ s.2.2 ≠ [] then (if s.2.2.getLastD false = true then s.2.1.dropLast else s.2.1) else s.2.1
  let wt := if p.1 = .PI ∧ s.2.2 ≠ [] then s.2.2.dropLast else s.2.2
  let u := if p.1 = .B then 0 else stk.getLastD 0
  let r := s.1.getD u (0, [])
  let rs := s.1.set u (r.1, r.2 ++ [p.2])
  if Sh32.opens p.1 = true then
    (let lv := (pushI p.1 (r.1 : Nat) ((S.lookup (p.2 : Int)).getD 0)).toNat
    if lv ≤ 60 then (rs ++ [(lv, [])], stk ++ [s.1.length], wt ++ [true]) else (rs, stk, wt ++ [false]))
  else (rs, stk, wt)
noncomputable def side0 (S : List (Int × Int)) (side : Int) : Int := if side ≠ 2 then side else (S.lookup (-1)).getD 0
noncomputable def runsSt (side : Int) (cs : List Sh32.Class) (ps : List (Sh32.Class × Nat)) : RSt := ps.foldl (stR (sidesM cs)) ([((side0 (sidesM cs) side).toNat, [])], [0], [])
noncomputable def runsM (side : Int) (cs : List Sh32.Class) : List (Nat × List Nat) := (runsSt side cs cs.zipIdx).1
structure RInv (s : RSt) (n : Nat) : Prop where
  ne : s.2.1 ≠ []
  lt : ∀ j ∈ s.2.1, j < s.1.length
  pos : 0 < s.1.length
  cnt : s.2.2.count true + 1 = s.2.1.length
  l1 : s.1.length ≤ n + 1
  l2 : s.2.2.length ≤ n
  l3 : s.2.1.length ≤ n + 1
  l4 : ∀ r ∈ s.1, r.2.length ≤ n
theorem pushI_nonneg (c : Sh32.Class) (l : Nat) (ps : Int) : 0 ≤ pushI c l ps := by
  unfold pushI aboveI
  split
  · split <;> omega
  · split <;> omega
theorem getLastD_mem {l : List Nat} (h : l ≠ []) : l.getLastD 0 ∈ l := by
  rw [List.getLastD_eq_getLast?, List.getLast?_eq_some_getLast h]
  exact List.getLast_mem h
theorem RInv.pop {rs : List (Nat × List Nat)} {stk : List Nat} {wt : List Bool} {n : Nat} (c : Sh32.Class) (I : RInv (rs, stk, wt) n) : ∃ stk' wt', (if c = .PI ∧ wt ≠ [] then (if wt.getLastD false = true then stk.dropLast else stk) else stk) = stk' ∧ (if c = .PI ∧ wt ≠ [] then wt.dropLast else wt) = wt' ∧ stk' ≠ [] ∧ (∀ j ∈ stk', j < rs.length) ∧ wt'.count true + 1 = stk'.length ∧ wt'.length ≤ n ∧ stk'.length ≤ n + 1 := by
  refine ⟨_, _, rfl, rfl, ?_⟩
  obtain ⟨h1, h2, h3, h4, h5, h6, h7, h8⟩ := I
  dsimp only at h1 h2 h3 h4 h5 h6 h7
  by_cases k : c = .PI ∧ wt ≠ []
  · simp only [if_pos k]
    obtain ⟨l, x, rfl⟩ : ∃ l x, wt = l ++ [x] := ⟨wt.dropLast, wt.getLast k.2, (List.dropLast_concat_getLast k.2).symm⟩
    rw [List.count_append] at h4
    have el : (l ++ [x]).getLastD false = x := by simp
    rw [el, List.dropLast_concat]
    rw [List.length_append] at h6
    simp only [List.length_cons, List.length_nil] at h6
    cases x with
    | true =>
      rw [if_pos rfl]
      simp only [List.count_cons, List.count_nil, beq_self_eq_true, if_true] at h4
      refine ⟨fun z => ?_, fun j hj => h2 j (List.dropLast_subset _ hj), by rw [List.length_dropLast]; omega, by omega, by rw [List.length_dropLast]; omega⟩
      have := congrArg List.length z
      rw [List.length_dropLast] at this
      simp at this
      omega
    | false =>
      rw [if_neg (by decide)]
      have e0 : ([false] : List Bool).count true = 0 := rfl
      rw [e0] at h4
      exact ⟨h1, h2, by omega, by omega, h7⟩
  · simp only [if_neg k]
    exact ⟨h1, h2, h4, h6, h7⟩
theorem RInv.step {S : List (Int × Int)} {s : RSt} {n i : Nat} {c : Sh32.Class} (I : RInv s n) : RInv (stR S s (c, i)) (n + 1) := by
  obtain ⟨rs, stk, wt⟩ := s
  obtain ⟨stk', wt', e1, e2, g1, g2, g3, g4, g5⟩ := I.pop c
  have hu : (if c = .B then 0 else stk'.getLastD 0) < rs.length := by
    split
    · exact I.pos
    · exact g2 _ (getLastD_mem g1)
  unfold stR
  dsimp only
  rw [e1, e2]
  generalize (if c = .B then 0 else stk'.getLastD 0) = u at hu
  have h8 : ∀ r ∈ rs.set u ((rs.getD u (0, [])).1, (rs.getD u (0, [])).2 ++ [i]), r.2.length ≤ n + 1 := fun r hr => by
    rcases List.mem_or_eq_of_mem_set hr with q | q
    · have := I.l4 r q; omega
    · rw [q]
      have : rs.getD u (0, []) ∈ rs := by
        rw [List.getD_eq_getElem?_getD, List.getElem?_eq_getElem hu]
        exact List.getElem_mem hu
      have := I.l4 _ this
      simp only [List.length_append, List.length_cons, List.length_nil]
      omega
  have hl1 := I.l1
  have hpos := I.pos
  dsimp only at hl1 hpos
  split
  · split
    · refine ⟨by simp, fun j hj => ?_, by simp, by simp [List.count_append]; omega, by simp; omega, by simp; omega, by simp; omega, fun r hr => ?_⟩
      · rcases List.mem_append.mp hj with q | q
        · have := g2 j q; simp; omega
        · rw [List.mem_singleton.mp q]; simp
      · rcases List.mem_append.mp hr with q | q
        · exact h8 r q
        · rw [List.mem_singleton.mp q]; simp
    · refine ⟨g1, fun j hj => by have := g2 j hj; simp; omega, by simp; omega, by simp [List.count_append]; omega, by simp; omega, by simp; omega, by simp; omega, h8⟩
  · exact ⟨g1, fun j hj => by have := g2 j hj; simp; omega, by simp; omega, g3, by simp; omega, by simp; omega, by simp; omega, h8⟩
theorem RInv.all {S : List (Int × Int)} (ps : List (Sh32.Class × Nat)) : ∀ (s : RSt) (n : Nat), RInv s n → RInv (ps.foldl (stR S) s) (n + ps.length) := by
  induction ps with
  | nil => intro s n h; exact h
  | cons p r ih =>
    intro s n h
    rw [List.foldl_cons]
    have := ih _ _ (RInv.step (S := S) (c := p.1) (i := p.2) h)
    rw [List.length_cons]
    have e : n + (r.length + 1) = n + 1 + r.length := by omega
    rw [e]
    exact this
structure RunsOut (C : Addr) (H0 H : Hp) (lr : Addr) (rs : List (Nat × List Nat)) (as : List Addr) : Prop where
  la : as.length = rs.length
  hr : H lr = some (.lst (as.map V.ref))
  nr : H0 lr = none
  ob : ∀ (j : Nat) a, as[j]? = some a → ∃ dx r pl, rs[j]? = some r ∧ H a = some (.ins C dx (runF (r.1 : Nat) pl)) ∧ H pl = some (.lst (r.2.map fun (k : Nat) => V.int k)) ∧ H0 pl = none
noncomputable def spRuns (C : Addr) : Sp := fun vs H Q _ => ∃ (a : Addr) (cs : List Sh32.Class) (side : Int), vs = [.ref a, .int side] ∧ H a = some (.lst (cs.map nV)) ∧ cs.length ≤ 1000000 ∧ 0 ≤ side ∧ side ≤ 2 ∧ ∀ lr as H', Same H H' → RunsOut C H H' lr (runsM side cs) as → Q (.ref lr) H'
theorem stS_vals (cs : List (Sh32.Class × Nat)) : ∀ s : List (Int × Int) × List Int, (∀ p ∈ s.1, p.2 = 0 ∨ p.2 = 1) → ∀ p ∈ (cs.foldl stS s).1, p.2 = 0 ∨ p.2 = 1 := by
  induction cs with
  | nil => intro s h; exact h
  | cons c r ih =>
    intro s h
    rw [List.foldl_cons]
    refine ih _ ?_
    unfold stS
    split
    · exact h
    · split
      · exact h
      · split
        · intro p hp
          rcases List.mem_append.mp hp with q | q
          · exact h p q
          · rw [List.mem_singleton.mp q]
            split
            · exact .inl rfl
            · exact .inr rfl
        · exact h
theorem mem_of_lookup {k v : Int} : ∀ {S : List (Int × Int)}, S.lookup k = some v → ∃ p ∈ S, p.2 = v
  | [], h => nomatch h
  | p :: S, h => by
    rw [List.lookup_cons] at h
    split at h
    · cases h; exact ⟨p, List.mem_cons_self, rfl⟩
    · obtain ⟨q, hq, e⟩ := mem_of_lookup h
      exact ⟨q, List.mem_cons_of_mem _ hq, e⟩
theorem sides_01 (cs : List Sh32.Class) (k : Int) : ((sidesM cs).lookup k).getD 0 = 0 ∨ ((sidesM cs).lookup k).getD 0 = 1 := by
  cases e : (sidesM cs).lookup k with
  | none => exact .inl rfl
  | some v =>
    obtain ⟨p, hp, rfl⟩ := mem_of_lookup e
    exact stS_vals cs.zipIdx ([], [-1]) (by simp) p hp
theorem side0_nonneg (cs : List Sh32.Class) (side : Int) (h : 0 ≤ side) : 0 ≤ side0 (sidesM cs) side := by
  unfold side0
  split
  · exact h
  · rcases sides_01 cs (-1) with e | e <;> rw [e] <;> decide
theorem sc_runs_of : FnScope ["classes", "side", "sides", "bottom", "runs", "stack", "waiting", "place", "name", "upper", "pushed", "level"] ["classes", "side"] (defScope s_runs_of) := ⟨rfl, rfl, rfl, by decide +kernel, rfl, by decide +kernel, by decide +kernel⟩
theorem ok_runs_of (G : Gs w K mg ad) : HasOk P w K mg base CX0 4 "runs_of" ["classes", "side"] (spRuns ad.Run) := by
  refine G.f_runs_of.ok sc_runs_of (fun vs H Q E h => ?_) (fun f cdv A outer s H vs Q E hr h => ?_)
  · obtain ⟨a, cs, side, rfl, _⟩ := h
    rfl
  · obtain ⟨a, cs, side, rfl, hS, hn, hs0, hs2, h⟩ := h
    have hu := hu_of hr
    obtain ⟨a_PUSHING, h_PUSHING, t_PUSHING⟩ := G.c_PUSHING
    obtain ⟨hmR, cl, _, nl, np⟩ := G.k_Run
    refine ⟨_, (pss_cons (ps_set (i := 2) sc_runs_of.nd rfl (by first | exact Or.inl rfl | exact Or.inr rfl) (pe_c0 (ok_sides_of G) (hr.mono (by decide)) (pa_cons (pv 0) pa_nil)))
      (pss_cons (ps_set (i := 3) sc_runs_of.nd rfl (by first | exact Or.inl rfl | exact Or.inr rfl) (pe_mk (ok_Run___init__ G) (hr.mono (by decide)) (pa_cons (pe_ifV (pt_cmpR op_ne (pv 1) pe_int (nomark _)) (pv 1) (pe_dget2 hu (pv 2) (pe_gi G.c_WHOLE) pe_int ⟨rfl, rfl, rfl, rfl⟩)) pa_nil)))
      (pss_cons (ps_set (i := 4) sc_runs_of.nd rfl (by first | exact Or.inl rfl | exact Or.inr rfl) (pe_lst (pa_cons (pv 3) pa_nil)))
      (pss_cons (ps_set (i := 5) sc_runs_of.nd rfl (by first | exact Or.inl rfl | exact Or.inr rfl) (pe_lst (pa_cons (pv 3) pa_nil)))
      (pss_cons (ps_set (i := 6) sc_runs_of.nd rfl (by first | exact Or.inl rfl | exact Or.inr rfl) (pe_lst pa_nil))
      (pss_cons (ps_for PassesOwn.never rfl (pi_enumK (K := K) rfl rfl G.b_enumerate (pa_cons (pv 0) pa_nil)) (pg_tupK (K := K) (n := 2) rfl rfl (pgs_cons (pg_name (i := 7) sc_runs_of.nd rfl (by first | exact Or.inl rfl | exact Or.inr rfl)) (pgs_cons (pg_name (i := 8) sc_runs_of.nd rfl (by first | exact Or.inl rfl | exact Or.inr rfl)) pgs_nil)))
      (pss_cons (ps_if ((pw_and (pt_cmpR op_eq (pv 8) pe_str (nomark _)) (pw_and1 (pt_truth (pv 6) (fun _ => rfl))))).pt (pss_cons (ps_set (i := 10) sc_runs_of.nd rfl (by first | exact Or.inl rfl | exact Or.inr rfl) (pe_bm0 PySem.F.plainAttrs_list PySem.F.slot_list_pop PySem.F.type_list_pop mt_pop (pv 6)))
      (pss_one (ps_if (pt_val (pv 10)) (pss_one (ps_expr (pe_bm0 PySem.F.plainAttrs_list PySem.F.slot_list_pop PySem.F.type_list_pop mt_pop (pv 5)))) pss_nil))) pss_nil)
      (pss_cons (ps_set (i := 9) sc_runs_of.nd rfl (by first | exact Or.inl rfl | exact Or.inr rfl) (pe_ifV (pt_cmpR op_eq (pv 8) pe_str (nomark _)) (pv 3) (pe_ix (ix_listK (K := K) rfl) (pv 5) (pe_un un_neg pe_int) (fun _ _ => rfl))))
      (pss_cons (ps_expr (pe_bm PySem.F.plainAttrs_list PySem.F.slot_list_append PySem.F.type_list_append mt_append (pe_fldK (K := K) rfl (pv 9) rfl) (pa_cons (pv 7) pa_nil)))
      (pss_one (ps_if (pt_cmpR (op_in_seqK (K := K) rfl) (pv 8) (pe_gr h_PUSHING) (by with_unfolding_all rfl)) (pss_cons (ps_set (i := 11) sc_runs_of.nd rfl (by first | exact Or.inl rfl | exact Or.inr rfl) (pe_c0 (ok_level_pushed G) (hr.mono (by decide)) (pa_cons (pv 8) (pa_cons (pe_fldK (K := K) rfl (pv 9) rfl) (pa_cons (pe_dget2 hu (pv 2) (pv 7) pe_int ⟨rfl, rfl, rfl, rfl⟩) pa_nil)))))
      (pss_cons (ps_expr (pe_bm PySem.F.plainAttrs_list PySem.F.slot_list_append PySem.F.type_list_append mt_append (pv 6) (pa_cons (pe_cmpR op_le (pv 11) (pe_gi G.c_MOST_LEVEL) (nomark _)) pa_nil)))
      (pss_one (ps_if (pt_cmpR op_le (pv 11) (pe_gi G.c_MOST_LEVEL) (nomark _)) (pss_cons (ps_expr (pe_bm PySem.F.plainAttrs_list PySem.F.slot_list_append PySem.F.type_list_append mt_append (pv 5) (pa_cons (pe_mk (ok_Run___init__ G) (hr.mono (by decide)) (pa_cons (pv 11) pa_nil)) pa_nil)))
      (pss_one (ps_expr (pe_bm PySem.F.plainAttrs_list PySem.F.slot_list_append PySem.F.type_list_append mt_append (pv 4) (pa_cons (pe_ix (ix_listK (K := K) rfl) (pv 5) (pe_un un_neg pe_int) (fun _ _ => rfl)) pa_nil))))) pss_nil)))) pss_nil))))))
      (pss_one (ps_ret (pv 4))))))))), ?_⟩
    simp only [L2.start, List.map_cons, List.map_nil, List.length_cons, List.length_nil, List.replicate, List.cons_append, List.nil_append, List.append_nil, List.getElem?_cons_zero, List.getElem?_cons_succ, List.set_cons_zero, List.set_cons_succ, wipe, tSeq, tIfS, tTest, tB, tChain, tRet, tRetN, tNext, tC, tVar, tDrop, tAsg, gName, tOp, tUn, rI0, rI, rU, tAnd, tOr, tNot, tAndV, tOrV, tNotV, tIf, tIfE, tIfV, tNil, tCons, tCB, tCall, tIsN, tNotN, t2I, tAug, ipI, tYes, tRaiseX, tTry, tLst, tTup, tDNewK, tDGet, tDIn, tDNotIn, sDPut, tBM, rAppend, rExtend, rPop, rIxL, rIxT, rIn, rEq, rNe, rCat, iList, iTup, iRng1, iRng2, iEnum, iEnumS, iZip, tKGet, tKGet1, tKGet2, tDGet1, tDGet2, tBM0, tFld, sFld, tSl, tNoPart, tPart, rSlL, gSub, rSetL, rRep, tMake, gTup, gCons, gNil, cxOf_K, List.map_append, List.length_map, V.int.injEq, V.bl.injEq, V.str.injEq, V.ref.injEq, Option.some.injEq, List.cons.injEq, exists_eq_left', exists_eq_left, exists_eq_right, exists_and_left, and_assoc, and_true, true_and, Bool.false_eq_true, if_false, if_true, reduceIte, decide_eq_true_eq, exists_const, exists_eq, exists_eq', and_self, exists_prop]
    refine ⟨a, cs, rfl, hS, hn, fun d H1 hd s1 hd1 => ?_⟩
    have hv : (if (!decide (side = 2)) = true then V.int side = V.int (side0 (sidesM cs) side) else IsD H1 d ∧ ∃ x, DGet H1 d (V.int (-1)) x ∧ x.getD (V.int 0) = V.int (side0 (sidesM cs) side)) := by
      unfold side0
      by_cases k : side = 2
      · rw [if_neg (by simp [k]), if_neg (fun z => z k)]
        refine ⟨.inl ⟨_, .inl hd1⟩, _, DGet.k (k := Sum.inl (-1)) hd1, ?_⟩
        rw [val_enc]
        cases (sidesM cs).lookup (-1) <;> rfl
      · rw [if_pos (by simp [k]), if_pos k]
    refine ⟨rfl, V.int (side0 (sidesM cs) side), ?_, ?_⟩
    · by_cases k : side = 2
      · rw [if_neg (by simp [k])] at hv ⊢
        exact ⟨d, rfl, hv.1, hv.2⟩
      · rw [if_pos (by simp [k])] at hv ⊢
        exact hv
    clear hv
    have h00 : 0 ≤ side0 (sidesM cs) side := side0_nonneg cs side hs0
    refine fun b0 dx0 nb nd0 nbd => made_run nb nd0 fun pl0 H2 npl npb s2 hb hpl => ⟨rfl, by decide, fun lr hlr => ⟨by decide, fun ls hls => ⟨Nat.zero_le _, fun lw hlw => ?_⟩⟩⟩
    have n1 : ls ≠ lr := fun z => by rw [z, upd_same] at hls; cases hls
    have n2 : lw ≠ ls := fun z => by rw [z, upd_same] at hlw; cases hlw
    have n3 : lw ≠ lr := fun z => by rw [z, upd_ne n1.symm, upd_same] at hlw; cases hlw
    have f1 : H2 lr = none := hlr
    have f2 : H2 ls = none := by rw [upd_ne n1] at hls; exact hls
    have f3 : H2 lw = none := by rw [upd_ne n2, upd_ne n3] at hlw; exact hlw
    have sH : Same H H2 := s1.trans s2
    have sA : Same H2 (upd (upd (upd H2 lr (.lst [.ref b0])) ls (.lst [.ref b0])) lw (.lst [])) := ((Same.add hlr).trans (Same.add hls)).trans (Same.add hlw)
    have q1 : pl0 ≠ lr := ne_of_none hpl f1
    have q2 : pl0 ≠ ls := ne_of_none hpl f2
    have q3 : pl0 ≠ lw := ne_of_none hpl f3
    have hlr0 : H lr = none := sH.free f1
    have hls0 : H ls = none := sH.free f2
    have hlw0 : H lw = none := sH.free f3
    have R0 : RunsH ad.Run (upd (upd (upd H2 lr (.lst [.ref b0])) ls (.lst [.ref b0])) lw (.lst [])) lr ls lw [b0] [pl0] [((side0 (sidesM cs) side).toNat, [])] [0] [] := by
      refine ⟨rfl, rfl, ?_, ?_, ?_, upd_same, fun j x e => ?_⟩
      · simp only [List.nodup_cons, List.mem_cons, List.mem_nil_iff, not_or, or_false]
        exact ⟨⟨n1.symm, n3.symm, q1.symm⟩, ⟨n2.symm, q2.symm⟩, q3.symm, by simp, List.nodup_nil⟩
      · rw [upd_ne n3.symm, upd_ne n1.symm, upd_same]; rfl
      · rw [upd_ne n2.symm, upd_same]; rfl
      · cases j with
        | zero =>
          cases e
          refine ⟨dx0, _, pl0, rfl, rfl, ?_, sA _ _ hpl⟩
          rw [Int.toNat_of_nonneg h00]
          exact sA _ _ hb
        | succ j => simp at e
    refine ⟨_, rfl, _, _, rfl, SqL.of (sA _ _ (sH _ _ hS)), for_enum2 (K := K) (a := a) (xs := cs.map nV) (fun i σ H' => Same H H' ∧ H' d = some (.dK (encS (sidesM cs))) ∧ ∃ as pls v7 v8 v9 v10 v11, RunsH ad.Run H' lr ls lw as pls (runsSt side cs (cs.zipIdx.take i)).1 (runsSt side cs (cs.zipIdx.take i)).2.1 (runsSt side cs (cs.zipIdx.take i)).2.2 ∧ as[0]? = some b0 ∧ (∀ p ∈ pls, H p = none) ∧
        σ = [some (.ref a), some (.int side), some (.ref d), some (.ref b0), some (.ref lr), some (.ref ls), some (.ref lw), v7, v8, v9, v10, v11])
      ⟨sH.trans sA, sA _ _ (s2 _ _ hd1), [b0], [pl0], none, none, none, none, none, R0, rfl, fun p hp => by rw [List.mem_singleton.mp hp]; exact s1.free npl, rfl⟩ (fun i σ H' _ p => SqL.of (p.1 _ _ hS)) ?_ ?_⟩
    · rintro i x σ H3 H' hx ⟨sm1, hd3, as, pls, v7, v8, v9, v10, v11, R1, hb0, hpn, rfl⟩ sm'
      obtain ⟨c, rfl, hc⟩ := map_at hx
      have sm := sm1.trans sm'
      have hdd := sm' _ _ hd3
      have R := R1.same sm'
      have hi : i < cs.length := (List.getElem?_eq_some_iff.mp hc).1
      have et : runsSt side cs (cs.zipIdx.take (i + 1)) = stR (sidesM cs) (runsSt side cs (cs.zipIdx.take i)) (c, i) := by
        unfold runsSt
        rw [take_snoc (zip_at hc), List.foldl_append]
        rfl
      rw [et]
      have I := RInv.all (S := sidesM cs) (cs.zipIdx.take i) ([((side0 (sidesM cs) side).toNat, [])], [0], []) 0 ⟨by simp, by simp, by simp, rfl, by simp, by simp, by simp, by simp⟩
      rw [List.length_take, List.length_zipIdx] at I
      have I : RInv (runsSt side cs (cs.zipIdx.take i)) (0 + min i cs.length) := I
      generalize runsSt side cs (cs.zipIdx.take i) = st at R I et
      clear R1 sm1 hd3 et
      obtain ⟨rs, stk, wt⟩ := st
      have J := RInv.step (S := sidesM cs) (c := c) (i := i) I
      dsimp only at R
      obtain ⟨In, Il, Ip, Ic, I1, I2, I3, I4⟩ := I
      dsimp only at In Il Ip Ic I1 I2 I3 I4
      have ndls : d ≠ ls := ne_of hdd R.hs (by intro z; cases z)
      have ndlw : d ≠ lw := ne_of hdd R.hw (by intro z; cases z)
      have ndlr : d ≠ lr := ne_of hdd R.hr (by intro z; cases z)
      obtain ⟨stk', wt', es1, es2, g1, g2, g3, g4, g5⟩ := RInv.pop c ⟨In, Il, Ip, Ic, I1, I2, I3, I4⟩
      -- PI
      refine seq_cut (fun σ' H' => ∃ v9 v10 v11, Same H H' ∧ H' d = some (.dK (encS (sidesM cs))) ∧ RunsH ad.Run H' lr ls lw as pls rs (if c = .PI ∧ wt ≠ [] then (if wt.getLastD false = true then stk.dropLast else stk) else stk) (if c = .PI ∧ wt ≠ [] then wt.dropLast else wt) ∧
        σ' = [some (.ref a), some (.int side), some (.ref d), some (.ref b0), some (.ref lr), some (.ref ls), some (.ref lw), some (.int (i : Nat)), some (nV c), v9, v10, v11]) (fun NX hN => ?_) ?_
      · have eP : (nV c = V.str "PI") ↔ c = .PI := nV_eq (d := .PI)
        simp only [L2.start, List.map_cons, List.map_nil, List.length_cons, List.length_nil, List.replicate, List.cons_append, List.nil_append, List.append_nil, List.getElem?_cons_zero, List.getElem?_cons_succ, List.set_cons_zero, List.set_cons_succ, wipe, tSeq, tIfS, tTest, tB, tChain, tRet, tRetN, tNext, tC, tVar, tDrop, tAsg, gName, tOp, tUn, rI0, rI, rU, tAnd, tOr, tNot, tAndV, tOrV, tNotV, tIf, tIfE, tIfV, tNil, tCons, tCB, tCall, tIsN, tNotN, t2I, tAug, ipI, tYes, tRaiseX, tTry, tLst, tTup, tDNewK, tDGet, tDIn, tDNotIn, sDPut, tBM, rAppend, rExtend, rPop, rIxL, rIxT, rIn, rEq, rNe, rCat, iList, iTup, iRng1, iRng2, iEnum, iEnumS, iZip, tKGet, tKGet1, tKGet2, tDGet1, tDGet2, tBM0, tFld, sFld, tSl, tNoPart, tPart, rSlL, gSub, rSetL, rRep, tMake, gTup, gCons, gNil, cxOf_K, List.map_append, List.length_map, V.int.injEq, V.bl.injEq, V.str.injEq, V.ref.injEq, Option.some.injEq, List.cons.injEq, exists_eq_left', exists_eq_left, exists_eq_right, exists_and_left, and_assoc, and_true, true_and, Bool.false_eq_true, if_false, if_true, reduceIte, decide_eq_true_eq, exists_const, exists_eq, exists_eq', and_self, exists_prop]
        simp only [eP]
        refine ⟨rfl, ?_⟩
        by_cases k1 : c = .PI
        · rw [if_pos k1]
          refine ⟨!(wt.map V.bl).isEmpty, .inl ⟨_, SqL.of R.hw, rfl⟩, ?_⟩
          by_cases k2 : wt = []
          · rw [if_neg (by simp [k2])]
            exact hN _ _ ⟨v9, v10, v11, sm, hdd, by rw [if_neg (by simp [k2]), if_neg (by simp [k2])]; exact R, rfl⟩
          · rw [if_pos (by simp [k2])]
            obtain ⟨wl, z, rfl⟩ : ∃ l x, wt = l ++ [x] := ⟨wt.dropLast, wt.getLast k2, (List.dropLast_concat_getLast k2).symm⟩
            have ed : ((wl ++ [z]).map V.bl).dropLast = wl.map V.bl := by simp
            have Rw := R.wait wl
            refine ⟨.inl ⟨rfl, _, SqL.of R.hw⟩, _, R.hw, V.bl z, by simp, z, rfl, ?_⟩
            rw [ed]
            have e1 : (wl ++ [z]).getLastD false = z := by simp
            have e2 : (wl ++ [z]).dropLast = wl := by simp
            have kk : c = .PI ∧ wl ++ [z] ≠ [] := ⟨k1, k2⟩
            simp only [if_pos kk, e1, e2] at hN
            cases z with
            | true =>
              rw [if_pos rfl] at hN ⊢
              have hl0 : 0 < (stk.map fun j => V.ref (as.getD j 0)).length := by rw [List.length_map]; exact List.length_pos_iff.mpr In
              refine ⟨.inl ⟨rfl, _, SqL.of Rw.hs⟩, _, Rw.hs, _, List.getElem?_eq_getElem (by omega), ?_⟩
              have Rs := Rw.stack stk.dropLast
              rw [List.map_dropLast] at Rs
              exact hN _ _ ⟨v9, some (.bl true), v11, (sm.updn hlw0).updn hls0, by rw [upd_ne ndls, upd_ne ndlw]; exact hdd, Rs, rfl⟩
            | false =>
              rw [if_neg (by decide)] at hN ⊢
              exact hN _ _ ⟨v9, some (.bl false), v11, sm.updn hlw0, by rw [upd_ne ndlw]; exact hdd, Rw, rfl⟩
        · rw [if_neg k1]
          exact hN _ _ ⟨v9, v10, v11, sm, hdd, by rw [if_neg (by simp [k1]), if_neg (by simp [k1])]; exact R, rfl⟩
      · rintro σ' H4 ⟨v9, v10, v11, sm4, hd4, R4, rfl⟩
        rw [es1, es2] at R4
        have hu : (if c = .B then 0 else stk'.getLastD 0) < rs.length := by
          split
          · exact Ip
          · exact g2 _ (getLastD_mem g1)
        have eSt : stR (sidesM cs) (rs, stk, wt) (c, i) = (let u := if c = .B then 0 else stk'.getLastD 0
            let r := rs.getD u (0, [])
            let rs1 := rs.set u (r.1, r.2 ++ [i])
            if Sh32.opens c = true then (let lv := (pushI c (r.1 : Nat) (((sidesM cs).lookup (i : Int)).getD 0)).toNat
              if lv ≤ 60 then (rs1 ++ [(lv, [])], stk' ++ [rs.length], wt' ++ [true]) else (rs1, stk', wt' ++ [false])) else (rs1, stk', wt')) := by
          rw [← es1, ← es2]; rfl
        rw [eSt]
        clear eSt J
        dsimp only
        generalize hu' : (if c = .B then 0 else stk'.getLastD 0) = u at hu
        have er : rs[u]? = some (rs.getD u (0, [])) := by rw [List.getD_eq_getElem?_getD, List.getElem?_eq_getElem hu]; rfl
        have hrl : (rs.getD u (0, [])).2.length ≤ 0 + min i cs.length := I4 _ (List.mem_of_getElem? er)
        generalize rs.getD u (0, []) = r at er hrl
        have hua : u < as.length := by rw [R4.la]; exact hu
        have eau : as[u]? = some as[u] := List.getElem?_eq_getElem hua
        have ead : as.getD u 0 = as[u] := by rw [List.getD_eq_getElem?_getD, eau]; rfl
        obtain ⟨dxu, r', plu, er', ep, eo, epl⟩ := R4.ob u _ eau
        rw [er] at er'
        cases er'
        generalize as[u] = au at eau ead eo
        refine seq_cut (fun σ' H' => H' = H4 ∧ σ' = [some (.ref a), some (.int side), some (.ref d), some (.ref b0), some (.ref lr), some (.ref ls), some (.ref lw), some (.int (i : Nat)), some (nV c), some (.ref au), v10, v11]) (fun NX hN => ?_) ?_
        · have eB : (nV c = V.str "B") ↔ c = .B := nV_eq (d := .B)
          simp only [L2.start, List.map_cons, List.map_nil, List.length_cons, List.length_nil, List.replicate, List.cons_append, List.nil_append, List.append_nil, List.getElem?_cons_zero, List.getElem?_cons_succ, List.set_cons_zero, List.set_cons_succ, wipe, tSeq, tIfS, tTest, tB, tChain, tRet, tRetN, tNext, tC, tVar, tDrop, tAsg, gName, tOp, tUn, rI0, rI, rU, tAnd, tOr, tNot, tAndV, tOrV, tNotV, tIf, tIfE, tIfV, tNil, tCons, tCB, tCall, tIsN, tNotN, t2I, tAug, ipI, tYes, tRaiseX, tTry, tLst, tTup, tDNewK, tDGet, tDIn, tDNotIn, sDPut, tBM, rAppend, rExtend, rPop, rIxL, rIxT, rIn, rEq, rNe, rCat, iList, iTup, iRng1, iRng2, iEnum, iEnumS, iZip, tKGet, tKGet1, tKGet2, tDGet1, tDGet2, tBM0, tFld, sFld, tSl, tNoPart, tPart, rSlL, gSub, rSetL, rRep, tMake, gTup, gCons, gNil, cxOf_K, List.map_append, List.length_map, V.int.injEq, V.bl.injEq, V.str.injEq, V.ref.injEq, Option.some.injEq, List.cons.injEq, exists_eq_left', exists_eq_left, exists_eq_right, exists_and_left, and_assoc, and_true, true_and, Bool.false_eq_true, if_false, if_true, reduceIte, decide_eq_true_eq, exists_const, exists_eq, exists_eq', and_self, exists_prop]
          simp only [eB]
          refine ⟨rfl, .ref au, ?_, hN _ _ ⟨rfl, rfl⟩⟩
          by_cases k1 : c = .B
          · rw [if_pos k1] at hu' ⊢
            subst hu'
            rw [hb0] at eau
            cases eau
            rfl
          · rw [if_neg k1] at hu' ⊢
            refine ⟨_, SqL.of R4.hs, ?_⟩
            obtain ⟨sl, x, rfl⟩ : ∃ l x, stk' = l ++ [x] := ⟨stk'.dropLast, stk'.getLast g1, (List.dropLast_concat_getLast g1).symm⟩
            have e3 : (sl ++ [x]).getLastD 0 = x := by simp
            rw [e3] at hu'
            subst hu'
            rw [List.map_append]
            simp only [List.map_cons, List.map_nil]
            rw [atI_last, ead]
        rintro σ' H5 ⟨rfl, rfl⟩
        have hzp : (r.2.map fun (k : Nat) => V.int k).length < sizeLine := by rw [List.length_map, sizeLine_eq]; omega
        have R5 := R4.place (i := i) er ep
        have hpl0 : H plu = none := hpn plu (List.mem_of_getElem? ep)
        have ndpl : d ≠ plu := ne_of hd4 epl (by intro z; cases z)
        refine seq_cut (fun σ' H' => Same H H' ∧ H' d = some (.dK (encS (sidesM cs))) ∧ RunsH ad.Run H' lr ls lw as pls (rs.set u (r.1, r.2 ++ [i])) stk' wt' ∧ H' au = some (.ins ad.Run dxu (runF (r.1 : Nat) plu)) ∧ σ' = [some (.ref a), some (.int side), some (.ref d), some (.ref b0), some (.ref lr), some (.ref ls), some (.ref lw), some (.int (i : Nat)), some (nV c), some (.ref au), v10, v11]) (fun NX hN => ?_) ?_
        · simp only [L2.start, List.map_cons, List.map_nil, List.length_cons, List.length_nil, List.replicate, List.cons_append, List.nil_append, List.append_nil, List.getElem?_cons_zero, List.getElem?_cons_succ, List.set_cons_zero, List.set_cons_succ, wipe, tSeq, tIfS, tTest, tB, tChain, tRet, tRetN, tNext, tC, tVar, tDrop, tAsg, gName, tOp, tUn, rI0, rI, rU, tAnd, tOr, tNot, tAndV, tOrV, tNotV, tIf, tIfE, tIfV, tNil, tCons, tCB, tCall, tIsN, tNotN, t2I, tAug, ipI, tYes, tRaiseX, tTry, tLst, tTup, tDNewK, tDGet, tDIn, tDNotIn, sDPut, tBM, rAppend, rExtend, rPop, rIxL, rIxT, rIn, rEq, rNe, rCat, iList, iTup, iRng1, iRng2, iEnum, iEnumS, iZip, tKGet, tKGet1, tKGet2, tDGet1, tDGet2, tBM0, tFld, sFld, tSl, tNoPart, tPart, rSlL, gSub, rSetL, rRep, tMake, gTup, gCons, gNil, cxOf_K, List.map_append, List.length_map, V.int.injEq, V.bl.injEq, V.str.injEq, V.ref.injEq, Option.some.injEq, List.cons.injEq, exists_eq_left', exists_eq_left, exists_eq_right, exists_and_left, and_assoc, and_true, true_and, Bool.false_eq_true, if_false, if_true, reduceIte, decide_eq_true_eq, exists_const, exists_eq, exists_eq', and_self, exists_prop]
          have hap : au ≠ plu := ne_of eo epl (by intro z; cases z)
          exact ⟨_, _, _, eo, cl, np, _, runF_places _ _, .inl ⟨rfl, _, SqL.of epl⟩, _, rfl, _, epl, hzp, hN _ _ ⟨sm4.updn hpl0, by rw [upd_ne ndpl]; exact hd4, R5, by rw [upd_ne hap]; exact eo, rfl⟩⟩
        rintro σ' H6 ⟨sm6, hd6, R6, eo6, rfl⟩
        have hlen6 : (rs.set u (r.1, r.2 ++ [i])).length = rs.length := List.length_set
        have h6 : ∀ j ∈ stk', j < (rs.set u (r.1, r.2 ++ [i])).length := fun j hj => by rw [hlen6]; exact g2 j hj
        have hzw : (wt'.map V.bl).length < sizeLine := by rw [List.length_map, sizeLine_eq]; omega
        have hzs : (stk'.map fun j => V.ref (as.getD j 0)).length < sizeLine := by rw [List.length_map, sizeLine_eq]; omega
        have hzr : (as.map V.ref).length < sizeLine := by rw [List.length_map, R6.la, hlen6, sizeLine_eq]; omega
        by_cases k1 : Sh32.opens c = true
        · simp only [if_pos k1]
          have hnn := pushI_nonneg c r.1 (((sidesM cs).lookup (i : Int)).getD 0)
          generalize hlv : pushI c (r.1 : Nat) (((sidesM cs).lookup (i : Int)).getD 0) = lv at hnn
          have eov : (Option.map V.int ((sidesM cs).lookup (i : Int))).getD (V.int 0) = V.int (((sidesM cs).lookup (i : Int)).getD 0) := by cases (sidesM cs).lookup (i : Int) <;> rfl
          by_cases k2 : lv.toNat ≤ 60
          · simp only [if_pos k2]
            have k3 : lv ≤ 60 := by omega
            simp only [L2.start, List.map_cons, List.map_nil, List.length_cons, List.length_nil, List.replicate, List.cons_append, List.nil_append, List.append_nil, List.getElem?_cons_zero, List.getElem?_cons_succ, List.set_cons_zero, List.set_cons_succ, wipe, tSeq, tIfS, tTest, tB, tChain, tRet, tRetN, tNext, tC, tVar, tDrop, tAsg, gName, tOp, tUn, rI0, rI, rU, tAnd, tOr, tNot, tAndV, tOrV, tNotV, tIf, tIfE, tIfV, tNil, tCons, tCB, tCall, tIsN, tNotN, t2I, tAug, ipI, tYes, tRaiseX, tTry, tLst, tTup, tDNewK, tDGet, tDIn, tDNotIn, sDPut, tBM, rAppend, rExtend, rPop, rIxL, rIxT, rIn, rEq, rNe, rCat, iList, iTup, iRng1, iRng2, iEnum, iEnumS, iZip, tKGet, tKGet1, tKGet2, tDGet1, tDGet2, tBM0, tFld, sFld, tSl, tNoPart, tPart, rSlL, gSub, rSetL, rRep, tMake, gTup, gCons, gNil, cxOf_K, List.map_append, List.length_map, V.int.injEq, V.bl.injEq, V.str.injEq, V.ref.injEq, Option.some.injEq, List.cons.injEq, exists_eq_left', exists_eq_left, exists_eq_right, exists_and_left, and_assoc, and_true, true_and, Bool.false_eq_true, if_false, if_true, reduceIte, decide_eq_true_eq, exists_const, exists_eq, exists_eq', and_self, exists_prop]
            refine ⟨_, .inr t_PUSHING.sq, rfl, rfl, ?_⟩
            rw [in_pushing, if_pos k1]
            refine ⟨_, _, _, eo6, cl, nl, _, runF_level _ _, .inl ⟨_, .inl hd6⟩, _, DGet.k (k := Sum.inl (i : Int)) hd6, ?_⟩
            rw [val_enc, eov]
            refine ⟨c, _, _, rfl, ?_⟩
            rw [hlv]
            have Rw := R6.wait (wt' ++ [true])
            rw [List.map_append] at Rw
            refine ⟨.inl ⟨rfl, _, SqL.of R6.hw⟩, _, rfl, _, R6.hw, hzw, _, rfl, ?_⟩
            rw [if_pos k3, decide_eq_true k3]
            refine ⟨.inl ⟨rfl, _, SqL.of Rw.hs⟩, fun x dx nx nd ndx => made_run nx nd fun pl H7 npl npx s7 hx7 hp7 => ⟨rfl, _, s7 _ _ Rw.hs, hzs, ?_⟩⟩
            have hx7' : H7 x = some (.ins ad.Run dx (runF ((lv.toNat : Nat) : Int) pl)) := by rw [Int.toNat_of_nonneg hnn]; exact hx7
            have Rm := Rw.more (lv := lv.toNat) nx npl npx s7 hx7' hp7 h6
            rw [hlen6] at Rm
            obtain ⟨m1, m2, m3, m4, m5⟩ := Rw.nds
            have nxH : H x = none := (sm6.updn hlw0).free nx
            refine ⟨.inl ⟨rfl, _, SqL.of (by rw [upd_ne m1]; exact s7 _ _ Rw.hr)⟩, _, SqL.of upd_same, _, atI_last _ _, _, by rw [upd_ne m1]; exact s7 _ _ Rw.hr, hzr, ?_⟩
            refine ⟨((sm6.updn hlw0).trans s7 |>.updn hls0).updn hlr0, ?_, _, _, Rm, ?_, ?_⟩
            · rw [upd_ne ndlr, upd_ne ndls]
              exact s7 _ _ (by rw [upd_ne ndlw]; exact hd6)
            · rw [List.getElem?_append_left (by rw [R6.la, hlen6]; exact Ip)]; exact hb0
            · intro p hp
              rcases List.mem_append.mp hp with q | q
              · exact hpn p q
              · rw [List.mem_singleton.mp q]; exact (sm6.updn hlw0).free npl
          · simp only [if_neg k2]
            have k3 : ¬ lv ≤ 60 := by omega
            simp only [L2.start, List.map_cons, List.map_nil, List.length_cons, List.length_nil, List.replicate, List.cons_append, List.nil_append, List.append_nil, List.getElem?_cons_zero, List.getElem?_cons_succ, List.set_cons_zero, List.set_cons_succ, wipe, tSeq, tIfS, tTest, tB, tChain, tRet, tRetN, tNext, tC, tVar, tDrop, tAsg, gName, tOp, tUn, rI0, rI, rU, tAnd, tOr, tNot, tAndV, tOrV, tNotV, tIf, tIfE, tIfV, tNil, tCons, tCB, tCall, tIsN, tNotN, t2I, tAug, ipI, tYes, tRaiseX, tTry, tLst, tTup, tDNewK, tDGet, tDIn, tDNotIn, sDPut, tBM, rAppend, rExtend, rPop, rIxL, rIxT, rIn, rEq, rNe, rCat, iList, iTup, iRng1, iRng2, iEnum, iEnumS, iZip, tKGet, tKGet1, tKGet2, tDGet1, tDGet2, tBM0, tFld, sFld, tSl, tNoPart, tPart, rSlL, gSub, rSetL, rRep, tMake, gTup, gCons, gNil, cxOf_K, List.map_append, List.length_map, V.int.injEq, V.bl.injEq, V.str.injEq, V.ref.injEq, Option.some.injEq, List.cons.injEq, exists_eq_left', exists_eq_left, exists_eq_right, exists_and_left, and_assoc, and_true, true_and, Bool.false_eq_true, if_false, if_true, reduceIte, decide_eq_true_eq, exists_const, exists_eq, exists_eq', and_self, exists_prop]
            refine ⟨_, .inr t_PUSHING.sq, rfl, rfl, ?_⟩
            rw [in_pushing, if_pos k1]
            refine ⟨_, _, _, eo6, cl, nl, _, runF_level _ _, .inl ⟨_, .inl hd6⟩, _, DGet.k (k := Sum.inl (i : Int)) hd6, ?_⟩
            rw [val_enc, eov]
            refine ⟨c, _, _, rfl, ?_⟩
            rw [hlv]
            have Rw := R6.wait (wt' ++ [false])
            rw [List.map_append] at Rw
            refine ⟨.inl ⟨rfl, _, SqL.of R6.hw⟩, _, rfl, _, R6.hw, hzw, _, rfl, ?_⟩
            rw [if_neg k3, decide_eq_false k3]
            exact ⟨sm6.updn hlw0, by rw [upd_ne ndlw]; exact hd6, as, pls, Rw, hb0, hpn⟩
        · simp only [if_neg k1]
          simp only [L2.start, List.map_cons, List.map_nil, List.length_cons, List.length_nil, List.replicate, List.cons_append, List.nil_append, List.append_nil, List.getElem?_cons_zero, List.getElem?_cons_succ, List.set_cons_zero, List.set_cons_succ, wipe, tSeq, tIfS, tTest, tB, tChain, tRet, tRetN, tNext, tC, tVar, tDrop, tAsg, gName, tOp, tUn, rI0, rI, rU, tAnd, tOr, tNot, tAndV, tOrV, tNotV, tIf, tIfE, tIfV, tNil, tCons, tCB, tCall, tIsN, tNotN, t2I, tAug, ipI, tYes, tRaiseX, tTry, tLst, tTup, tDNewK, tDGet, tDIn, tDNotIn, sDPut, tBM, rAppend, rExtend, rPop, rIxL, rIxT, rIn, rEq, rNe, rCat, iList, iTup, iRng1, iRng2, iEnum, iEnumS, iZip, tKGet, tKGet1, tKGet2, tDGet1, tDGet2, tBM0, tFld, sFld, tSl, tNoPart, tPart, rSlL, gSub, rSetL, rRep, tMake, gTup, gCons, gNil, cxOf_K, List.map_append, List.length_map, V.int.injEq, V.bl.injEq, V.str.injEq, V.ref.injEq, Option.some.injEq, List.cons.injEq, exists_eq_left', exists_eq_left, exists_eq_right, exists_and_left, and_assoc, and_true, true_and, Bool.false_eq_true, if_false, if_true, reduceIte, decide_eq_true_eq, exists_const, exists_eq, exists_eq', and_self, exists_prop]
          refine ⟨_, .inr t_PUSHING.sq, rfl, rfl, ?_⟩
          rw [in_pushing, if_neg k1]
          exact ⟨sm6, hd6, as, pls, R6, hb0, hpn⟩
    · rintro σ H' ⟨sm, hdd, as, pls, v7, v8, v9, v10, v11, R, hb0, hpn, rfl⟩
      have et2 : cs.zipIdx.take (cs.map nV).length = cs.zipIdx := List.take_of_length_le (by rw [List.length_zipIdx, List.length_map]; exact Nat.le_refl _)
      rw [et2] at R
      simp only [L2.start, List.map_cons, List.map_nil, List.length_cons, List.length_nil, List.replicate, List.cons_append, List.nil_append, List.append_nil, List.getElem?_cons_zero, List.getElem?_cons_succ, List.set_cons_zero, List.set_cons_succ, wipe, tSeq, tIfS, tTest, tB, tChain, tRet, tRetN, tNext, tC, tVar, tDrop, tAsg, gName, tOp, tUn, rI0, rI, rU, tAnd, tOr, tNot, tAndV, tOrV, tNotV, tIf, tIfE, tIfV, tNil, tCons, tCB, tCall, tIsN, tNotN, t2I, tAug, ipI, tYes, tRaiseX, tTry, tLst, tTup, tDNewK, tDGet, tDIn, tDNotIn, sDPut, tBM, rAppend, rExtend, rPop, rIxL, rIxT, rIn, rEq, rNe, rCat, iList, iTup, iRng1, iRng2, iEnum, iEnumS, iZip, tKGet, tKGet1, tKGet2, tDGet1, tDGet2, tBM0, tFld, sFld, tSl, tNoPart, tPart, rSlL, gSub, rSetL, rRep, tMake, gTup, gCons, gNil, cxOf_K, List.map_append, List.length_map, V.int.injEq, V.bl.injEq, V.str.injEq, V.ref.injEq, Option.some.injEq, List.cons.injEq, exists_eq_left', exists_eq_left, exists_eq_right, exists_and_left, and_assoc, and_true, true_and, Bool.false_eq_true, if_false, if_true, reduceIte, decide_eq_true_eq, exists_const, exists_eq, exists_eq', and_self, exists_prop]
      exact h lr as H' sm ⟨R.la, R.hr, hlr0, fun j x e => let ⟨dx, r, pl, e1, e2, e3, e4⟩ := R.ob j x e; ⟨dx, r, pl, e1, e3, e4, hpn pl (List.mem_of_getElem? e2)⟩⟩
end
section
variable {P : Program} {w : World} {K : PySem.W.Frag} {mg : Str → Option Value} {base : Heap} {ad : Ad}
noncomputable def setAll (l : List Int) (ps : List (Nat × Int)) : List Int := ps.foldl (fun l p => l.set p.1 p.2) l
noncomputable def paraLv (side : Int) (cs : List Sh32.Class) : List Int :=
  (runsM side cs).foldl (fun l r => setAll l (r.2.zip (runLv r.1 (r.2.map fun k => cs.getD k .O)))) (List.replicate cs.length 0)
noncomputable def RunsFit (n : Nat) (rs : List (Nat × List Nat)) : Prop := ∀ r ∈ rs, r.1 ≤ 1000 ∧ r.2.length ≤ 1000000 ∧ ∀ k ∈ r.2, k < n
noncomputable def spParaLv : Sp := fun vs H Q _ => ∃ (a : Addr) (cs : List Sh32.Class) (side : Int), vs = [.ref a, .int side] ∧ H a = some (.lst (cs.map nV)) ∧ cs.length ≤ 100000 ∧ 0 ≤ side ∧ side ≤ 2 ∧ ∀ D H', H D = none → Same H H' → H' D = some (.lst ((paraLv side cs).map V.int)) → Q (.ref D) H'
theorem set_len (ps : List (Nat × Int)) : ∀ l : List Int, (setAll l ps).length = l.length := by
  induction ps with
  | nil => intro l; rfl
  | cons p r ih => intro l; show (setAll (l.set p.1 p.2) r).length = l.length; rw [ih, List.length_set]
noncomputable def RFit (n : Nat) (s : RSt) : Prop := ∀ r ∈ s.1, r.1 ≤ 60 ∧ ∀ k ∈ r.2, k < n
theorem RFit.step {S : List (Int × Int)} {s : RSt} {n i : Nat} {c : Sh32.Class} (hi : i < n) (F : RFit n s) : RFit n (stR S s (c, i)) := by
  obtain ⟨rs, stk, wt⟩ := s
  unfold stR
  dsimp only
  generalize (if c = .B then 0 else (if c = .PI ∧ wt ≠ [] then (if wt.getLastD false = true then stk.dropLast else stk) else stk).getLastD 0) = u
  have h1 : ∀ r ∈ rs.set u ((rs.getD u (0, [])).1, (rs.getD u (0, [])).2 ++ [i]), r.1 ≤ 60 ∧ ∀ k ∈ r.2, k < n := fun r hr => by
    rcases List.mem_or_eq_of_mem_set hr with q | q
    · exact F r q
    · have hg : (rs.getD u (0, [])).1 ≤ 60 ∧ ∀ k ∈ (rs.getD u (0, [])).2, k < n := by
        by_cases hu : u < rs.length
        · have : rs.getD u (0, []) ∈ rs := by
            rw [List.getD_eq_getElem?_getD, List.getElem?_eq_getElem hu]
            exact List.getElem_mem hu
          exact F _ this
        · rw [List.getD_eq_getElem?_getD, List.getElem?_eq_none (by omega)]
          exact ⟨Nat.zero_le _, fun k hk => nomatch hk⟩
      rw [q]
      refine ⟨hg.1, fun k hk => ?_⟩
      rcases List.mem_append.mp hk with z | z
      · exact hg.2 k z
      · rw [List.mem_singleton.mp z]; exact hi
  split
  · split
    · rename_i h2
      intro r hr
      rcases List.mem_append.mp hr with q | q
      · exact h1 r q
      · rw [List.mem_singleton.mp q]
        exact ⟨h2, fun k hk => nomatch hk⟩
    · exact h1
  · exact h1
theorem RFit.all {S : List (Int × Int)} {n : Nat} (ps : List (Sh32.Class × Nat)) : ∀ s : RSt, (∀ p ∈ ps, p.2 < n) → RFit n s → RFit n (ps.foldl (stR S) s) := by
  induction ps with
  | nil => intro s _ h; exact h
  | cons p r ih =>
    intro s hp h
    rw [List.foldl_cons]
    exact ih _ (fun q hq => hp q (List.mem_cons_of_mem _ hq)) (RFit.step (c := p.1) (i := p.2) (hp p List.mem_cons_self) h)
theorem side0_le (cs : List Sh32.Class) (side : Int) (h : side ≤ 2) : side0 (sidesM cs) side ≤ 2 := by
  unfold side0
  split
  · exact h
  · rcases sides_01 cs (-1) with e | e <;> rw [e] <;> decide
theorem fits (side : Int) (h0 : 0 ≤ side) (h2 : side ≤ 2) (cs : List Sh32.Class) (hn : cs.length ≤ 100000) : RunsFit cs.length (runsM side cs) := by
  have F : RFit cs.length (runsSt side cs cs.zipIdx) := RFit.all _ _ (fun p hp => by
      have := List.snd_lt_of_mem_zipIdx hp
      omega) (fun r hr => by
      rw [List.mem_singleton.mp hr]
      have := side0_le cs side h2
      exact ⟨by omega, fun k hk => nomatch hk⟩)
  have I := RInv.all (S := sidesM cs) cs.zipIdx ([((side0 (sidesM cs) side).toNat, [])], [0], []) 0 ⟨by simp, by simp, by simp, rfl, by simp, by simp, by simp, by simp⟩
  rw [List.length_zipIdx] at I
  intro r hr
  have f := F r hr
  have l := I.l4 r hr
  exact ⟨by omega, by omega, f.2⟩
theorem neut_wait (side : Sh32.Class) (hs : Sh32.neutral side = false) (cs : List Sh32.Class) (s : List Sh32.Class × Sh32.Class × Nat) : ((cs ++ [side]).foldl (stN side) s).2.2 = 0 := by
  rw [List.foldl_append, List.foldl_cons, List.foldl_nil]
  unfold stN
  rw [if_neg (by rw [hs]; decide)]
theorem neut_len (side : Sh32.Class) (hs : Sh32.neutral side = false) (cs : List Sh32.Class) : (neutM side cs).length = cs.length := by
  have h1 := neut_wait side hs cs ([], side, 0)
  have h2 := stN_len side (cs ++ [side]) ([], side, 0)
  unfold neutM
  rw [List.length_dropLast]
  simp only [List.length_append, List.length_cons, List.length_nil] at h2
  omega
theorem runLv_len (l : Nat) (cs : List Sh32.Class) : (runLv l cs).length = cs.length := by
  unfold runLv runM
  rw [List.length_map, neut_len _ (by unfold sideN; split <;> rfl), List.length_map, digits_len, marks_len]
theorem sc_paragraph_levels : FnScope ["classes", "side", "found", "run", "names", "place", "level"] ["classes", "side"] (defScope s_paragraph_levels) := ⟨rfl, rfl, rfl, by decide +kernel, rfl, by decide +kernel, by decide +kernel⟩
theorem ok_paragraph_levels (G : Gs w K mg ad) : HasOk P w K mg base CX0 5 "paragraph_levels" ["classes", "side"] spParaLv := by
  refine G.f_paragraph_levels.ok sc_paragraph_levels (fun vs H Q E h => ?_) (fun f cdv A outer s H vs Q E hr h => ?_)
  · obtain ⟨a, cs, side, rfl, _⟩ := h
    rfl
  · obtain ⟨a, cs, side, rfl, hS, hn, hs0, hs2, h⟩ := h
    obtain ⟨hmR, cl, _, nl', np⟩ := G.k_Run
    refine ⟨_, (pss_cons (ps_set (i := 2) sc_paragraph_levels.nd rfl (by first | exact Or.inl rfl | exact Or.inr rfl) (pe_op op_rep (pe_lst (pa_cons pe_int pa_nil)) (pe_callB (call_len_seqK (K := K) rfl) (by rfl) G.b_len PySem.boot_len (pa_cons (pv 0) pa_nil))))
      (pss_cons (ps_for PassesOwn.never rfl (pi_listK (K := K) rfl (pe_c0 (ok_runs_of G) (hr.mono (by decide)) (pa_cons (pv 0) (pa_cons (pv 1) pa_nil)))) (pg_name (i := 3) sc_paragraph_levels.nd rfl (by first | exact Or.inl rfl | exact Or.inr rfl))
      (pss_cons (ps_setLc (i := 4) rfl sc_paragraph_levels.nd rfl rfl (sw_true rfl rfl rfl (by decide +kernel)) (pi_listK (K := K) rfl (pe_fldK (K := K) rfl (pv 3) rfl)) (own := [("place", 5)]) (blkOk_by rfl) (fun s H C cl fp => (pg_name (i := 5) sc_paragraph_levels.nd rfl (by first | exact Or.inl rfl | exact Or.inr rfl))) (fun s H C cl fp => pts_nil) (fun s H C cl fp => (pe_ix (ix_listK (K := K) rfl) (pv 0) (pv 5) (fun _ _ => rfl))))
      (pss_one (ps_for PassesOwn.never rfl (pi_zipK (K := K) rfl rfl G.b_zip (pa_cons (pe_fldK (K := K) rfl (pv 3) rfl) (pa_cons (pe_c0 (ok_run_levels G) (hr.mono (by decide)) (pa_cons (pv 4) (pa_cons (pe_fldK (K := K) rfl (pv 3) rfl) pa_nil))) pa_nil))) (pg_tupK (K := K) (n := 2) rfl rfl (pgs_cons (pg_name (i := 5) sc_paragraph_levels.nd rfl (by first | exact Or.inl rfl | exact Or.inr rfl)) (pgs_cons (pg_name (i := 6) sc_paragraph_levels.nd rfl (by first | exact Or.inl rfl | exact Or.inr rfl)) pgs_nil)))
      (pss_one (ps_asg (pv 6) (pg_sub (pv 2) (pv 5) set_list)))))))
      (pss_one (ps_ret (pv 2))))), ?_⟩
    simp only [L2.start, List.map_cons, List.map_nil, List.length_cons, List.length_nil, List.replicate, List.cons_append, List.nil_append, List.append_nil, List.getElem?_cons_zero, List.getElem?_cons_succ, List.set_cons_zero, List.set_cons_succ, wipe, tSeq, tIfS, tTest, tB, tChain, tRet, tRetN, tNext, tC, tVar, tDrop, tAsg, gName, tOp, tUn, rI0, rI, rU, tAnd, tOr, tNot, tAndV, tOrV, tNotV, tIf, tIfE, tIfV, tNil, tCons, tCB, tCall, tIsN, tNotN, t2I, tAug, ipI, tYes, tRaiseX, tTry, tLst, tTup, tDNewK, tDGet, tDIn, tDNotIn, sDPut, tBM, rAppend, rExtend, rPop, rIxL, rIxT, rIn, rEq, rNe, rCat, iList, iTup, iRng1, iRng2, iEnum, iEnumS, iZip, tKGet, tKGet1, tKGet2, tDGet1, tDGet2, tBM0, tFld, sFld, tSl, tNoPart, tPart, rSlL, gSub, rSetL, rRep, tMake, gTup, gCons, gNil, cxOf_K, List.map_append, List.length_map, V.int.injEq, V.bl.injEq, V.str.injEq, V.ref.injEq, Option.some.injEq, List.cons.injEq, exists_eq_left', exists_eq_left, exists_eq_right, exists_and_left, and_assoc, and_true, true_and, Bool.false_eq_true, if_false, if_true, reduceIte, decide_eq_true_eq, exists_const, exists_eq, exists_eq', and_self, exists_prop]
    have er : (List.replicate (((cs.map nV).length : Nat) : Int).toNat [V.int 0]).flatten = (List.replicate cs.length (0 : Int)).map V.int := by
      rw [Int.toNat_natCast, List.length_map, List.map_replicate]
      induction cs.length with
      | zero => rfl
      | succ n ih => rw [List.replicate_succ, List.flatten_cons, ih, List.replicate_succ]; rfl
    refine ⟨by decide, fun p hp => ⟨_, .inl (SqL.of (Same.add hp _ _ hS)), _, upd_same, by omega, by rw [List.length_map]; omega, ?_, fun l hl => ?_⟩⟩
    · rw [Int.toNat_natCast, List.length_map, sizeLine_eq]
      simp only [List.length_cons, List.length_nil]
      omega
    rw [er]
    have s1 : Same H (upd (upd H p (.lst [.int 0])) l (.lst ((List.replicate cs.length (0 : Int)).map V.int))) := (Same.add hp).trans (Same.add hl)
    have hl0 : H l = none := (Same.add hp).free hl
    have hl1 : (upd (upd H p (.lst [.int 0])) l (.lst ((List.replicate cs.length (0 : Int)).map V.int))) l = some (.lst ((List.replicate cs.length (0 : Int)).map V.int)) := upd_same
    generalize upd (upd H p (.lst [.int 0])) l (.lst ((List.replicate cs.length (0 : Int)).map V.int)) = H1 at s1 hl1
    refine ⟨_, rfl, _, rfl, a, cs, side, rfl, s1 _ _ hS, by omega, hs0, hs2, fun lr as H2 s2 RO => ?_⟩
    have FT := fits side hs0 hs2 cs hn
    have nlr : lr ≠ l := fun z => by have := RO.nr; rw [z, hl1] at this; cases this
    generalize hrs : runsM side cs = rs at RO FT
    have hla := RO.la
    refine ⟨lr, rfl, ⟨_, SqL.of RO.hr⟩, for_list (K := K) (a := lr) (xs := as.map V.ref) (fun j σ H' => (∀ b o, b ≠ l → H2 b = some o → H' b = some o) ∧ Same H H' ∧ H' l = some (.lst (((rs.take j).foldl (fun l r => setAll l (r.2.zip (runLv r.1 (r.2.map fun k => cs.getD k .O)))) (List.replicate cs.length 0)).map V.int)) ∧
        ∃ v3 v4 v5 v6, σ = [some (.ref a), some (.int side), some (.ref l), v3, v4, v5, v6])
      ⟨fun b o _ e => e, s1.trans s2, s2 _ _ hl1, none, none, none, none, rfl⟩ (fun j σ H' _ p => SqL.of (p.1 lr _ nlr RO.hr)) ?_ ?_⟩
    · rintro j x σ H' hx ⟨kb, sm, hl', v3, v4, v5, v6, rfl⟩
      obtain ⟨au, rfl, ha⟩ := map_at hx
      obtain ⟨dx, r, pl, er, eo, epl, n0⟩ := RO.ob j au ha
      obtain ⟨t1, t2, t3⟩ := FT r (List.mem_of_getElem? er)
      rw [take_snoc er, List.foldl_append, List.foldl_cons, List.foldl_nil]
      have hlen : ((rs.take j).foldl (fun l r => setAll l (r.2.zip (runLv r.1 (r.2.map fun k => cs.getD k .O)))) (List.replicate cs.length (0 : Int))).length = cs.length := by
        have : ∀ (q : List (Nat × List Nat)) (z : List Int), (q.foldl (fun l r => setAll l (r.2.zip (runLv r.1 (r.2.map fun k => cs.getD k .O)))) z).length = z.length := fun q => by
          induction q with
          | nil => intro z; rfl
          | cons y q ih => intro z; rw [List.foldl_cons, ih, set_len]
        rw [this, List.length_replicate]
      generalize (rs.take j).foldl (fun l r => setAll l (r.2.zip (runLv r.1 (r.2.map fun k => cs.getD k .O)))) (List.replicate cs.length (0 : Int)) = cur at hl' hlen
      have npl : pl ≠ l := fun z => by rw [z, hl1] at n0; cases n0
      have nau : au ≠ l := ne_of eo (s2 _ _ hl1) (by intro z; cases z)
      have eo' := kb au _ nau eo
      have epl' := kb pl _ npl epl
      refine seq_cut (fun σ' H3 => ∃ v5 nl, Same H' H3 ∧ H3 nl = some (.lst ((r.2.map fun k => cs.getD k .O).map nV)) ∧ σ' = [some (.ref a), some (.int side), some (.ref l), some (.ref au), some (.ref nl), v5, v6]) (fun NX hN => ?_) ?_
      · refine tlc_ix (xs := r.2.map fun (k : Nat) => V.int k) (fun i => nV (cs.getD (r.2.getD i 0) .O)) (fun R z => ⟨_, rfl, au, ad.Run, dx, _, _, rfl, eo', cl, np, runF_places _ _, _, rfl, ⟨_, SqL.of epl'⟩, z⟩) (runs_list (SqL.of epl')) (by rw [List.length_map, sizeLine_eq]; omega) (fun i x H3 hx s3 T hT => ?_) (fun D H3 hD s3 hD' => ?_)
        · obtain ⟨k, rfl, hk⟩ := map_at (c := fun (k : Nat) => V.int k) hx
          have hkn := t3 k (List.mem_of_getElem? hk)
          have ec : cs[k]? = some (cs.getD k .O) := by rw [List.getD_eq_getElem?_getD, List.getElem?_eq_getElem hkn]; rfl
          have ei : r.2.getD i 0 = k := by rw [List.getD_eq_getElem?_getD, hk]; rfl
          rw [ei] at hT
          simp only [L2.start, List.map_cons, List.map_nil, List.length_cons, List.length_nil, List.replicate, List.cons_append, List.nil_append, List.append_nil, List.getElem?_cons_zero, List.getElem?_cons_succ, List.set_cons_zero, List.set_cons_succ, wipe, tSeq, tIfS, tTest, tB, tChain, tRet, tRetN, tNext, tC, tVar, tDrop, tAsg, gName, tOp, tUn, rI0, rI, rU, tAnd, tOr, tNot, tAndV, tOrV, tNotV, tIf, tIfE, tIfV, tNil, tCons, tCB, tCall, tIsN, tNotN, t2I, tAug, ipI, tYes, tRaiseX, tTry, tLst, tTup, tDNewK, tDGet, tDIn, tDNotIn, sDPut, tBM, rAppend, rExtend, rPop, rIxL, rIxT, rIn, rEq, rNe, rCat, iList, iTup, iRng1, iRng2, iEnum, iEnumS, iZip, tKGet, tKGet1, tKGet2, tDGet1, tDGet2, tBM0, tFld, sFld, tSl, tNoPart, tPart, rSlL, gSub, rSetL, rRep, tMake, gTup, gCons, gNil, cxOf_K, List.map_append, List.length_map, V.int.injEq, V.bl.injEq, V.str.injEq, V.ref.injEq, Option.some.injEq, List.cons.injEq, exists_eq_left', exists_eq_left, exists_eq_right, exists_and_left, and_assoc, and_true, true_and, Bool.false_eq_true, if_false, if_true, reduceIte, decide_eq_true_eq, exists_const, exists_eq, exists_eq', and_self, exists_prop]
          exact ⟨_, SqL.of (s3 _ _ (sm _ _ hS)), _, atI_map ec, hT _ (Same.refl _)⟩
        · refine hN _ _ ⟨v5, D, s3, ?_, rfl⟩
          rw [hD', List.length_map, List.map_map]
          congr 2
          refine List.ext_getElem (by simp) fun i h1 h2 => ?_
          simp at h1
          simp [List.getD_eq_getElem?_getD, List.getElem?_eq_getElem h1]
      rintro σ' H3 ⟨v5', nl, s3, hnl, rfl⟩
      have eo3 := s3 _ _ eo'
      have epl3 := s3 _ _ epl'
      refine ⟨_, rfl, au, ad.Run, dx, _, _, rfl, eo3, cl, np, runF_places _ _, _, rfl, _, rfl, au, ad.Run, dx, _, _, rfl, eo3, cl, nl', runF_level _ _, nl, r.2.map fun k => cs.getD k .O, r.1, rfl, hnl, by rw [List.length_map]; exact t2, t1, fun D H4 hD s4 hD4 => ?_⟩
      have hlen2 : (r.2.map fun (k : Nat) => V.int k).length = ((runLv r.1 (r.2.map fun k => cs.getD k .O)).map V.int).length := by rw [List.length_map, List.length_map, runLv_len, List.length_map]
      have hlen3 : r.2.length = (runLv r.1 (r.2.map fun k => cs.getD k .O)).length := by rw [runLv_len, List.length_map]
      generalize runLv r.1 (r.2.map fun k => cs.getD k .O) = lvs at hD4 hlen2 hlen3
      have s34 := s3.trans s4
      have nDl : D ≠ l := fun z => by rw [z, s3 _ _ hl'] at hD; cases hD
      refine ⟨pl, D, _, _, rfl, SqL.of (s4 _ _ epl3), SqL.of hD4, for_zip2 (K := K) (a := pl) (b := D) (xs := r.2.map fun (k : Nat) => V.int k) (ys := lvs.map V.int) (fun m σ H5 => (∀ b o, b ≠ l → H4 b = some o → H5 b = some o) ∧ Same H H5 ∧ H5 l = some (.lst ((setAll cur ((r.2.zip lvs).take m)).map V.int)) ∧ ∃ v5 v6, σ = [some (.ref a), some (.int side), some (.ref l), some (.ref au), some (.ref nl), v5, v6])
        hlen2 ⟨fun b o _ e => e, sm.trans s34, s34 _ _ hl', v5', v6, rfl⟩ (fun m σ H5 _ q => ⟨SqL.of (q.1 pl _ npl (s4 _ _ epl3)), SqL.of (q.1 D _ nDl hD4)⟩) ?_ ?_⟩
      · rintro m x y σ H5 H6 hx hy ⟨kb5, sm5, hl5, w5, w6, rfl⟩ s6
        obtain ⟨k, rfl, hk⟩ := map_at (c := fun (k : Nat) => V.int k) hx
        obtain ⟨v, rfl, hv⟩ := map_at hy
        have hkn := t3 k (List.mem_of_getElem? hk)
        have ez : (r.2.zip lvs)[m]? = some (k, v) := by rw [List.getElem?_zip_eq_some]; exact ⟨hk, hv⟩
        have e1 : setAll cur ((r.2.zip lvs).take (m + 1)) = (setAll cur ((r.2.zip lvs).take m)).set k v := by
          rw [take_snoc ez]
          unfold setAll
          rw [List.foldl_append]
          rfl
        rw [e1]
        have hl6 := s6 _ _ hl5
        have hk2 : k < (setAll cur ((r.2.zip lvs).take m)).length := by rw [set_len, hlen]; exact hkn
        generalize setAll cur ((r.2.zip lvs).take m) = cur2 at hl6 hk2
        simp only [L2.start, List.map_cons, List.map_nil, List.length_cons, List.length_nil, List.replicate, List.cons_append, List.nil_append, List.append_nil, List.getElem?_cons_zero, List.getElem?_cons_succ, List.set_cons_zero, List.set_cons_succ, wipe, tSeq, tIfS, tTest, tB, tChain, tRet, tRetN, tNext, tC, tVar, tDrop, tAsg, gName, tOp, tUn, rI0, rI, rU, tAnd, tOr, tNot, tAndV, tOrV, tNotV, tIf, tIfE, tIfV, tNil, tCons, tCB, tCall, tIsN, tNotN, t2I, tAug, ipI, tYes, tRaiseX, tTry, tLst, tTup, tDNewK, tDGet, tDIn, tDNotIn, sDPut, tBM, rAppend, rExtend, rPop, rIxL, rIxT, rIn, rEq, rNe, rCat, iList, iTup, iRng1, iRng2, iEnum, iEnumS, iZip, tKGet, tKGet1, tKGet2, tDGet1, tDGet2, tBM0, tFld, sFld, tSl, tNoPart, tPart, rSlL, gSub, rSetL, rRep, tMake, gTup, gCons, gNil, cxOf_K, List.map_append, List.length_map, V.int.injEq, V.bl.injEq, V.str.injEq, V.ref.injEq, Option.some.injEq, List.cons.injEq, exists_eq_left', exists_eq_left, exists_eq_right, exists_and_left, and_assoc, and_true, true_and, Bool.false_eq_true, if_false, if_true, reduceIte, decide_eq_true_eq, exists_const, exists_eq, exists_eq', and_self, exists_prop]
        refine ⟨_, hl6, k, ?_, ?_⟩
        · unfold ixN
          rw [List.length_map, if_pos (by omega), if_pos (by omega), Int.toNat_natCast]
        · refine ⟨fun b o hb e => by rw [upd_ne hb]; exact s6 _ _ (kb5 b o hb e), (sm5.trans s6).updn hl0, ?_⟩
          rw [upd_same, List.map_set]
      · rintro σ H5 ⟨kb5, sm5, hl5, w5, w6, rfl⟩
        have e2 : (r.2.zip lvs).take (r.2.map fun (k : Nat) => V.int k).length = r.2.zip lvs := List.take_of_length_le (by rw [List.length_zip, List.length_map]; omega)
        rw [e2] at hl5
        exact ⟨fun b o hb e => kb5 b o hb (s34 _ _ (kb b o hb e)), sm5, hl5, _, _, _, _, rfl⟩
    · rintro σ H' ⟨kb, sm, hl', v3, v4, v5, v6, rfl⟩
      simp only [L2.start, List.map_cons, List.map_nil, List.length_cons, List.length_nil, List.replicate, List.cons_append, List.nil_append, List.append_nil, List.getElem?_cons_zero, List.getElem?_cons_succ, List.set_cons_zero, List.set_cons_succ, wipe, tSeq, tIfS, tTest, tB, tChain, tRet, tRetN, tNext, tC, tVar, tDrop, tAsg, gName, tOp, tUn, rI0, rI, rU, tAnd, tOr, tNot, tAndV, tOrV, tNotV, tIf, tIfE, tIfV, tNil, tCons, tCB, tCall, tIsN, tNotN, t2I, tAug, ipI, tYes, tRaiseX, tTry, tLst, tTup, tDNewK, tDGet, tDIn, tDNotIn, sDPut, tBM, rAppend, rExtend, rPop, rIxL, rIxT, rIn, rEq, rNe, rCat, iList, iTup, iRng1, iRng2, iEnum, iEnumS, iZip, tKGet, tKGet1, tKGet2, tDGet1, tDGet2, tBM0, tFld, sFld, tSl, tNoPart, tPart, rSlL, gSub, rSetL, rRep, tMake, gTup, gCons, gNil, cxOf_K, List.map_append, List.length_map, V.int.injEq, V.bl.injEq, V.str.injEq, V.ref.injEq, Option.some.injEq, List.cons.injEq, exists_eq_left', exists_eq_left, exists_eq_right, exists_and_left, and_assoc, and_true, true_and, Bool.false_eq_true, if_false, if_true, reduceIte, decide_eq_true_eq, exists_const, exists_eq, exists_eq', and_self, exists_prop]
      rw [List.length_map, hla, List.take_length, ← hrs] at hl'
      exact h l H' hl0 sm hl'
theorem pairs_of {H : Hp} : ∀ {rs : List (Nat × Nat)} {ys : List V}, Paired (PairAt H) rs ys → ∃ as : List Addr, ys = as.map V.ref ∧ as.length = rs.length ∧ ∀ (j : Nat) c r, as[j]? = some c → rs[j]? = some r → H c = some (.tup [.int (r.1 : Nat), .int (r.2 : Nat)])
  | _, _, .nil => ⟨[], rfl, rfl, fun j c r e => by simp at e⟩
  | _, _, .cons ⟨a, e, h⟩ t => by
    obtain ⟨as, e1, e2, e3⟩ := pairs_of t
    refine ⟨a :: as, by rw [e, e1]; rfl, by simp [e2], fun j c r ec er => ?_⟩
    cases j with
    | zero => cases ec; cases er; exact h
    | succ j => exact e3 j c r (by simpa using ec) (by simpa using er)
noncomputable def partOf (cs : List Sh32.Class) (r : Nat × Nat) : List Sh32.Class := (cs.drop r.1).take (r.2 - r.1)
noncomputable def levelsI (side : Int) (ns : List Int) : List Int := (parasM (ns.map clsN)).flatMap fun r => paraLv side (partOf (ns.map clsN) r)
noncomputable def spLevelsOf (K : PySem.W.Frag) : Sp := fun vs H Q _ => ∃ (a : Addr) (ns : List Int) (side : Int), vs = [.ref a, .int side] ∧ SqL K H a (ns.map V.int) ∧ ns.length ≤ 100000 ∧ 0 ≤ side ∧ side ≤ 2 ∧ ∀ D H', H D = none → Same H H' → H' D = some (.lst ((levelsI side ns).map V.int)) → Q (.ref D) H'
theorem paraLv_len (side : Int) (cs : List Sh32.Class) : (paraLv side cs).length = cs.length := by
  have : ∀ (q : List (Nat × List Nat)) (z : List Int), (q.foldl (fun l r => setAll l (r.2.zip (runLv r.1 (r.2.map fun k => cs.getD k .O)))) z).length = z.length := fun q => by
    induction q with
    | nil => intro z; rfl
    | cons y q ih => intro z; rw [List.foldl_cons, ih, set_len]
  unfold paraLv
  rw [this, List.length_replicate]
theorem stP_ok (n : Nat) (ps : List (Sh32.Class × Nat)) : ∀ s : List (Nat × Nat) × Nat, (∀ p ∈ ps, p.2 < n) → (s.2 ≤ n ∧ ∀ r ∈ s.1, r.1 ≤ n ∧ r.2 ≤ n) → ((ps.foldl stP s).2 ≤ n ∧ ∀ r ∈ (ps.foldl stP s).1, r.1 ≤ n ∧ r.2 ≤ n) := by
  induction ps with
  | nil => intro s _ h; exact h
  | cons p r ih =>
    intro s hp h
    rw [List.foldl_cons]
    refine ih _ (fun q hq => hp q (List.mem_cons_of_mem _ hq)) ?_
    have := hp p List.mem_cons_self
    unfold stP
    split
    · refine ⟨by show p.2 + 1 ≤ n; omega, fun r hr => ?_⟩
      rcases List.mem_append.mp hr with q | q
      · exact h.2 r q
      · rw [List.mem_singleton.mp q]; exact ⟨h.1, by show p.2 + 1 ≤ n; omega⟩
    · exact h
theorem paras_in (cs : List Sh32.Class) : ∀ r ∈ parasM cs, r.1 ≤ cs.length ∧ r.2 ≤ cs.length := by
  have h := stP_ok cs.length cs.zipIdx ([], 0) (fun p hp => by
    have := List.snd_lt_of_mem_zipIdx hp
    omega) ⟨Nat.zero_le _, fun r hr => nomatch hr⟩
  intro r hr
  unfold parasM at hr
  rcases List.mem_append.mp hr with q | q
  · exact h.2 r q
  · split at q
    · rw [List.mem_singleton.mp q]
      exact ⟨h.1, Nat.le_refl _⟩
    · cases q
theorem paras_few (cs : List Sh32.Class) : (parasM cs).length ≤ cs.length + 1 := by
  have h := stP_len cs.zipIdx ([], 0)
  rw [List.length_zipIdx] at h
  unfold parasM
  rw [List.length_append]
  have h1 : (parasSt cs).1.length ≤ cs.length := by
    unfold parasSt
    simpa using h
  split
  · simp; omega
  · simp; omega
noncomputable def sumL (l : List (Nat × Nat)) : Nat := (l.map fun r => r.2 - r.1).sum
theorem stP_sum (cs : List Sh32.Class) : ∀ (k : Nat) (s : List (Nat × Nat) × Nat), s.2 ≤ k → sumL s.1 = s.2 → ((cs.zipIdx k).foldl stP s).2 ≤ k + cs.length ∧ sumL ((cs.zipIdx k).foldl stP s).1 = ((cs.zipIdx k).foldl stP s).2 := by
  induction cs with
  | nil => intro k s h1 h2; exact ⟨h1, h2⟩
  | cons c r ih =>
    intro k s h1 h2
    rw [List.zipIdx_cons, List.foldl_cons, List.length_cons]
    have h3 : (stP s (c, k)).2 ≤ k + 1 ∧ sumL (stP s (c, k)).1 = (stP s (c, k)).2 := by
      unfold stP
      split
      · refine ⟨Nat.le_refl _, ?_⟩
        unfold sumL at h2 ⊢
        rw [List.map_append, List.sum_append, h2]
        simp
        omega
      · exact ⟨by omega, h2⟩
    have := ih (k + 1) _ h3.1 h3.2
    exact ⟨by omega, this.2⟩
theorem paras_sum (cs : List Sh32.Class) : sumL (parasM cs) = cs.length := by
  have h := stP_sum cs 0 ([], 0) (Nat.le_refl _) rfl
  have e : (cs.zipIdx 0).foldl stP ([], 0) = parasSt cs := rfl
  rw [e] at h
  unfold parasM sumL at *
  rw [List.map_append, List.sum_append, h.2]
  split
  · simp; omega
  · simp; omega
theorem take_sum (l : List (Nat × Nat)) (j : Nat) : sumL (l.take j) ≤ sumL l := by
  have e : sumL l = sumL (l.take j) + sumL (l.drop j) := by
    unfold sumL
    rw [← List.sum_append, ← List.map_append, List.take_append_drop]
  omega
theorem sc_levels_of : FnScope ["text", "side", "classes", "found", "begin", "end"] ["text", "side"] (defScope s_levels_of) := ⟨rfl, rfl, rfl, by decide +kernel, rfl, by decide +kernel, by decide +kernel⟩
theorem ok_levels_of (G : Gs w K mg ad) : HasOk P w K mg base CX0 6 "levels_of" ["text", "side"] (spLevelsOf K) := by
  refine G.f_levels_of.ok sc_levels_of (fun vs H Q E h => ?_) (fun f cdv A outer s H vs Q E hr h => ?_)
  · obtain ⟨a, ns, side, rfl, _⟩ := h
    rfl
  · obtain ⟨a, ns, side, rfl, hS, hn, hs0, hs2, h⟩ := h
    refine ⟨_, (pss_cons (ps_set (i := 2) sc_levels_of.nd rfl (by first | exact Or.inl rfl | exact Or.inr rfl) (pe_c0 (ok_classes_of G) (hr.mono (by decide)) (pa_cons (pv 0) pa_nil)))
      (pss_cons (ps_set (i := 3) sc_levels_of.nd rfl (by first | exact Or.inl rfl | exact Or.inr rfl) (pe_lst pa_nil))
      (pss_cons (ps_for PassesOwn.never rfl (pi_listK (K := K) rfl (pe_c0 (ok_paragraphs_of G) (hr.mono (by decide)) (pa_cons (pv 2) pa_nil))) (pg_tupK (K := K) (n := 2) rfl rfl (pgs_cons (pg_name (i := 4) sc_levels_of.nd rfl (by first | exact Or.inl rfl | exact Or.inr rfl)) (pgs_cons (pg_name (i := 5) sc_levels_of.nd rfl (by first | exact Or.inl rfl | exact Or.inr rfl)) pgs_nil)))
      (pss_one (ps_expr (pe_bm PySem.F.plainAttrs_list PySem.F.slot_list_extend PySem.F.type_list_extend mt_extend (pv 3) (pa_cons (pe_c0 (ok_paragraph_levels G) (hr.mono (by decide)) (pa_cons (pe_slice (sl_listK (K := K) rfl) (pv 2) (po_some (pv 4)) (po_some (pv 5))) (pa_cons (pv 1) pa_nil))) pa_nil)))))
      (pss_one (ps_ret (pv 3)))))), ?_⟩
    simp only [L2.start, List.map_cons, List.map_nil, List.length_cons, List.length_nil, List.replicate, List.cons_append, List.nil_append, List.append_nil, List.getElem?_cons_zero, List.getElem?_cons_succ, List.set_cons_zero, List.set_cons_succ, wipe, tSeq, tIfS, tTest, tB, tChain, tRet, tRetN, tNext, tC, tVar, tDrop, tAsg, gName, tOp, tUn, rI0, rI, rU, tAnd, tOr, tNot, tAndV, tOrV, tNotV, tIf, tIfE, tIfV, tNil, tCons, tCB, tCall, tIsN, tNotN, t2I, tAug, ipI, tYes, tRaiseX, tTry, tLst, tTup, tDNewK, tDGet, tDIn, tDNotIn, sDPut, tBM, rAppend, rExtend, rPop, rIxL, rIxT, rIn, rEq, rNe, rCat, iList, iTup, iRng1, iRng2, iEnum, iEnumS, iZip, tKGet, tKGet1, tKGet2, tDGet1, tDGet2, tBM0, tFld, sFld, tSl, tNoPart, tPart, rSlL, gSub, rSetL, rRep, tMake, gTup, gCons, gNil, cxOf_K, List.map_append, List.length_map, V.int.injEq, V.bl.injEq, V.str.injEq, V.ref.injEq, Option.some.injEq, List.cons.injEq, exists_eq_left', exists_eq_left, exists_eq_right, exists_and_left, and_assoc, and_true, true_and, Bool.false_eq_true, if_false, if_true, reduceIte, decide_eq_true_eq, exists_const, exists_eq, exists_eq', and_self, exists_prop]
    refine ⟨a, ns, rfl, hS, by omega, fun lc H1 hlc s1 hC => ⟨Nat.zero_le _, fun l hl => ?_⟩⟩
    have ec : ns.map clsV = (ns.map clsN).map nV := by rw [List.map_map]; rfl
    rw [ec] at hC
    have hcl : (ns.map clsN).length ≤ 100000 := by rw [List.length_map]; exact hn
    unfold levelsI at h
    generalize ns.map clsN = cs at hC hcl h
    have s2 : Same H1 (upd H1 l (.lst [])) := Same.add hl
    have hl0 : H l = none := s1.free hl
    have nlc : lc ≠ l := ne_of_none hC hl
    refine ⟨_, rfl, lc, cs, rfl, s2 _ _ hC, by omega, fun D ys H2 nD sD hD pr => ?_⟩
    obtain ⟨as, rfl, hla, hat⟩ := pairs_of pr
    have nDl : D ≠ l := fun z => by rw [z, upd_same] at nD; cases nD
    have PI_ := paras_in cs
    have PF := paras_few cs
    generalize hps : parasM cs = ps at hla hat PI_ PF h
    have hpl : as.length = (ps.map fun r => (V.int (r.1 : Nat), V.int (r.2 : Nat))).length := by rw [List.length_map]; exact hla
    refine ⟨D, rfl, ⟨_, SqL.of hD⟩, for_pairs2 (K := K) (a := D) (as := as) (fun j σ H' => (∀ b o, b ≠ l → H2 b = some o → H' b = some o) ∧ Same H H' ∧ H' l = some (.lst (((ps.take j).flatMap fun r => paraLv side (partOf cs r)).map V.int)) ∧ ∃ v4 v5, σ = [some (.ref a), some (.int side), some (.ref lc), some (.ref l), v4, v5])
      (ps.map fun r => (V.int (r.1 : Nat), V.int (r.2 : Nat))) hpl ⟨fun b o _ e => e, (s1.trans s2).trans sD, sD _ _ upd_same, none, none, rfl⟩ (fun j σ H' hj p => ⟨SqL.of (p.1 D _ nDl hD), fun k c r ec er => ?_⟩) ?_ ?_⟩
    · rw [List.getElem?_map] at er
      cases eq : ps[k]? with
      | none => rw [eq] at er; cases er
      | some q =>
        rw [eq] at er
        cases er
        have ht := hat k c q ec eq
        exact SqT.of (p.1 c _ (ne_of ht (sD _ _ upd_same) (by intro z; cases z)) ht)
    · rintro j r σ H' hr' ⟨kb, sm, hl', v4, v5, rfl⟩
      rw [List.getElem?_map] at hr'
      cases eq : ps[j]? with
      | none => rw [eq] at hr'; cases hr'
      | some q =>
        rw [eq] at hr'
        cases hr'
        obtain ⟨i1, i2⟩ := PI_ q (List.mem_of_getElem? eq)
        rw [take_snoc eq, List.flatMap_append]
        have hC' := kb lc _ nlc (sD _ _ (s2 _ _ hC))
        have hlen : ((ps.take j).flatMap fun r => paraLv side (partOf cs r)).length ≤ cs.length := by
          have : ∀ q : List (Nat × Nat), (q.flatMap fun r => paraLv side (partOf cs r)).length ≤ sumL q := fun q => by
            induction q with
            | nil => simp [sumL]
            | cons r q ih =>
              rw [List.flatMap_cons, List.length_append, paraLv_len]
              have h1 : (partOf cs r).length ≤ r.2 - r.1 := by unfold partOf; rw [List.length_take]; omega
              have h2 : sumL (r :: q) = (r.2 - r.1) + sumL q := by simp [sumL]
              omega
          refine Nat.le_trans (this _) (Nat.le_trans (take_sum _ _) ?_)
          rw [← hps, paras_sum]
          exact Nat.le_refl _
        have hpart : (partOf cs q).length ≤ cs.length := by unfold partOf; rw [List.length_take, List.length_drop]; omega
        have ecut : cutV (cs.map nV) (some ((q.1 : Nat) : Int)) (some ((q.2 : Nat) : Int)) = (partOf cs q).map nV := by
          rw [cut_range _ _ _ (by rw [List.length_map]; exact i2) (by rw [List.length_map]; exact i1)]
          unfold partOf
          rw [List.map_take, List.map_drop]
        simp only [L2.start, List.map_cons, List.map_nil, List.length_cons, List.length_nil, List.replicate, List.cons_append, List.nil_append, List.append_nil, List.getElem?_cons_zero, List.getElem?_cons_succ, List.set_cons_zero, List.set_cons_succ, wipe, tSeq, tIfS, tTest, tB, tChain, tRet, tRetN, tNext, tC, tVar, tDrop, tAsg, gName, tOp, tUn, rI0, rI, rU, tAnd, tOr, tNot, tAndV, tOrV, tNotV, tIf, tIfE, tIfV, tNil, tCons, tCB, tCall, tIsN, tNotN, t2I, tAug, ipI, tYes, tRaiseX, tTry, tLst, tTup, tDNewK, tDGet, tDIn, tDNotIn, sDPut, tBM, rAppend, rExtend, rPop, rIxL, rIxT, rIn, rEq, rNe, rCat, iList, iTup, iRng1, iRng2, iEnum, iEnumS, iZip, tKGet, tKGet1, tKGet2, tDGet1, tDGet2, tBM0, tFld, sFld, tSl, tNoPart, tPart, rSlL, gSub, rSetL, rRep, tMake, gTup, gCons, gNil, cxOf_K, List.map_append, List.length_map, V.int.injEq, V.bl.injEq, V.str.injEq, V.ref.injEq, Option.some.injEq, List.cons.injEq, exists_eq_left', exists_eq_left, exists_eq_right, exists_and_left, and_assoc, and_true, true_and, Bool.false_eq_true, if_false, if_true, reduceIte, decide_eq_true_eq, exists_const, exists_eq, exists_eq', and_self, exists_prop]
        refine ⟨.inl ⟨rfl, _, SqL.of hl'⟩, _, SqL.of hC', fun p hp => ?_⟩
        rw [ecut]
        have nlp : l ≠ p := ne_of_none hl' hp
        refine ⟨p, partOf cs q, side, rfl, upd_same, by omega, hs0, hs2, fun D3 H3 n3 s3 e3 => ⟨_, rfl, _, s3 _ _ (by rw [upd_ne nlp]; exact hl'), _, e3, ?_, ?_, ?_, ?_⟩⟩
        · rw [List.length_map, List.length_map, paraLv_len, sizeLine_eq]
          omega
        · intro b o hb e
          rw [upd_ne hb]
          exact s3 _ _ (Same.add hp _ _ (kb b o hb e))
        · exact ((sm.trans (Same.add hp)).trans s3).updn hl0
        · rw [upd_same]
          simp
    · rintro σ H' ⟨kb, sm, hl', v4, v5, rfl⟩
      simp only [L2.start, List.map_cons, List.map_nil, List.length_cons, List.length_nil, List.replicate, List.cons_append, List.nil_append, List.append_nil, List.getElem?_cons_zero, List.getElem?_cons_succ, List.set_cons_zero, List.set_cons_succ, wipe, tSeq, tIfS, tTest, tB, tChain, tRet, tRetN, tNext, tC, tVar, tDrop, tAsg, gName, tOp, tUn, rI0, rI, rU, tAnd, tOr, tNot, tAndV, tOrV, tNotV, tIf, tIfE, tIfV, tNil, tCons, tCB, tCall, tIsN, tNotN, t2I, tAug, ipI, tYes, tRaiseX, tTry, tLst, tTup, tDNewK, tDGet, tDIn, tDNotIn, sDPut, tBM, rAppend, rExtend, rPop, rIxL, rIxT, rIn, rEq, rNe, rCat, iList, iTup, iRng1, iRng2, iEnum, iEnumS, iZip, tKGet, tKGet1, tKGet2, tDGet1, tDGet2, tBM0, tFld, sFld, tSl, tNoPart, tPart, rSlL, gSub, rSetL, rRep, tMake, gTup, gCons, gNil, cxOf_K, List.map_append, List.length_map, V.int.injEq, V.bl.injEq, V.str.injEq, V.ref.injEq, Option.some.injEq, List.cons.injEq, exists_eq_left', exists_eq_left, exists_eq_right, exists_and_left, and_assoc, and_true, true_and, Bool.false_eq_true, if_false, if_true, reduceIte, decide_eq_true_eq, exists_const, exists_eq, exists_eq', and_self, exists_prop]
      rw [hla, List.take_length] at hl'
      exact h l H' hl0 sm hl'
end
section
variable {P : Program} {w : World} {K : PySem.W.Frag} {mg : Str → Option Value} {base : Heap} {ad : Ad}
noncomputable def spRefI (K : PySem.W.Frag) : Sp := fun vs H Q _ => ∃ (e C : Addr) (v : V) (ws : Array Value), vs = [.ref e, v] ∧ H e = some (XO e C none ws) ∧ XCls K C ∧ NoAttr K C "answer" ∧ ∀ d, H d = none → d ≠ e → Q .non (upd (upd H d (.xd [("answer", v)])) e (XO e C (some d) ws))
theorem sc_Refusal___init__ : FnScope ["self", "answer"] ["self", "answer"] (defScope s_Refusal___init__) := ⟨rfl, rfl, rfl, by decide +kernel, rfl, by decide +kernel, by decide +kernel⟩
theorem ok_ref {f : Addr} {fd : FuncData} (F : Fun K "__init__" "Refusal.__init__" s_Refusal___init__ f fd) : FnOkN P w K mg base (CXE P w) 1 f fd ["self", "answer"] (spRefI K) := by
  refine F.okN sc_Refusal___init__ (fun vs H Q E h => ?_) (fun cdv A outer s H vs Q E hr h => ?_)
  · obtain ⟨e, C, v, ws, rfl, _⟩ := h
    rfl
  · obtain ⟨e, C, v, ws, rfl, he, xc, na, h⟩ := h
    exact ⟨_, pss_one (ps_xfld (pv 0) (pv 1) rfl), _, rfl, _, rfl, e, C, ws, rfl, he, xc, na, h⟩
theorem sc_OutOfRange___init__ : FnScope ["self"] ["self"] (defScope s_OutOfRange___init__) := ⟨rfl, rfl, rfl, by decide +kernel, rfl, by decide +kernel, by decide +kernel⟩
theorem xk_OutOfRange (G : Gs w K mg ad) : HasX P w K mg base ad.R 2 "OutOfRange" (fun us v => us = [] ∧ v = .int (-8)) := by
  obtain ⟨hm, hxR, fR, fdR, cm, FR, bR⟩ := G.x_Refusal
  obtain ⟨C, fI, fd, hmC, M, F, b, g, na⟩ := G.x_OutOfRange
  refine ⟨C, fI, fd, _, hmC, M, b, ?_, g⟩
  refine F.okN sc_OutOfRange___init__ (fun vs H Q E h => ?_) (fun cdv A outer s H vs Q E hr h => ?_)
  · obtain ⟨e, us, ws, v, rfl, ⟨rfl, _⟩, _⟩ := h
    rfl
  · obtain ⟨e, us, ws, v, rfl, ⟨rfl, rfl⟩, he, h⟩ := h
    refine ⟨_, pss_one (ps_expr (pe_cmethN rfl hm cm (ok_ref FR) (hr.mono (by decide)) bR (pa_cons (pv 0) (pa_cons (pe_un un_neg pe_int) pa_nil)))), ?_⟩
    exact ⟨_, rfl, _, rfl, e, C, _, ws, rfl, he, M.cl, na, h⟩
end
section
variable {P : Program} {w : World} {K : PySem.W.Frag} {mg : Str → Option Value} {base : Heap} {ad : Ad}
noncomputable def textOk (ns : List Int) : Bool := decide ((ns.length : Int) ≤ 65536) && ns.all isCP
noncomputable def spNeedText (K : PySem.W.Frag) (R : Addr) : Sp := fun vs H Q E => ∃ (a : Addr) (ns : List Int), vs = [.ref a] ∧ SqL K H a (ns.map V.int) ∧ ns.length ≤ 1000000 ∧ (textOk ns = true → ∀ H', Same H H' → Q .non H') ∧ (textOk ns = false → XAns K R (.int (-8)) H E)
theorem sc_need_text : FnScope ["text"] ["text"] (defScope s_need_text) := ⟨rfl, rfl, rfl, by decide +kernel, rfl, by decide +kernel, by decide +kernel⟩
theorem ok_need_text (G : Gs w K mg ad) : HasOk P w K mg base (CXE P w) 4 "need_text" ["text"] (spNeedText K ad.R) := by
  refine G.f_need_text.okE sc_need_text (fun vs H Q E h => ?_) (fun f cdv A outer s H vs Q E hr h => ?_)
  · obtain ⟨a, ns, rfl, _⟩ := h
    rfl
  · obtain ⟨a, ns, rfl, hS, hn, h1, h2⟩ := h
    refine ⟨_, (pss_one (ps_if (pt_not (pt_val (pe_c0 (ok_is_text G) (hr.mono (by decide)) (pa_cons (pv 0) pa_nil)))) (pss_one (ps_raiseX0 fliesE body_cx (xk_OutOfRange G) (hr.n.mono (by decide)))) pss_nil)), ?_⟩
    simp only [L2.start, List.map_cons, List.map_nil, List.length_cons, List.length_nil, List.replicate, List.cons_append, List.nil_append, List.append_nil, List.getElem?_cons_zero, List.getElem?_cons_succ, List.set_cons_zero, List.set_cons_succ, wipe, tSeq, tIfS, tTest, tB, tChain, tRet, tRetN, tNext, tC, tVar, tDrop, tAsg, gName, tOp, tUn, rI0, rI, rU, tAnd, tOr, tNot, tAndV, tOrV, tNotV, tIf, tIfE, tIfV, tNil, tCons, tCB, tCall, tIsN, tNotN, t2I, tAug, ipI, tYes, tRaiseX, tTry, tLst, tTup, tDNewK, tDGet, tDIn, tDNotIn, sDPut, tBM, rAppend, rExtend, rPop, rIxL, rIxT, rIn, rEq, rNe, rCat, iList, iTup, iRng1, iRng2, iEnum, iEnumS, iZip, tKGet, tKGet1, tKGet2, tDGet1, tDGet2, tBM0, tFld, sFld, tSl, tNoPart, tPart, rSlL, gSub, rSetL, rRep, tMake, gTup, gCons, gNil, cxOf_K, List.map_append, List.length_map, V.int.injEq, V.bl.injEq, V.str.injEq, V.ref.injEq, Option.some.injEq, List.cons.injEq, exists_eq_left', exists_eq_left, exists_eq_right, exists_and_left, and_assoc, and_true, true_and, Bool.false_eq_true, if_false, if_true, reduceIte, decide_eq_true_eq, exists_const, exists_eq, exists_eq', and_self, exists_prop]
    refine ⟨a, ns, rfl, hS, hn, fun H1 sm => ⟨_, rfl, ?_⟩⟩
    have e0 : (decide ((ns.length : Int) ≤ 65536) && ns.all isCP) = textOk ns := rfl
    rw [e0]
    cases e : textOk ns with
    | true => exact h1 e H1 sm
    | false => exact ⟨Nat.zero_le _, (h2 e).mono sm⟩
end
section
variable {P : Program} {w : World} {K : PySem.W.Frag} {mg : Str → Option Value} {base : Heap} {ad : Ad}
noncomputable def spNeedRange (K : PySem.W.Frag) (R : Addr) : Sp := fun vs H Q E => ∃ n lo hi : Int, vs = [.int n, .int lo, .int hi] ∧ (lo ≤ n ∧ n ≤ hi → Q .non H) ∧ (¬ (lo ≤ n ∧ n ≤ hi) → XAns K R (.int (-8)) H E)
theorem sc_need_range : FnScope ["number", "least", "most"] ["number", "least", "most"] (defScope s_need_range) := ⟨rfl, rfl, rfl, by decide +kernel, rfl, by decide +kernel, by decide +kernel⟩
theorem ok_need_range (G : Gs w K mg ad) : HasOk P w K mg base (CXE P w) 4 "need_range" ["number", "least", "most"] (spNeedRange K ad.R) := by
  refine G.f_need_range.okE sc_need_range (fun vs H Q E h => ?_) (fun f cdv A outer s H vs Q E hr h => ?_)
  · obtain ⟨n, lo, hi, rfl, _⟩ := h
    rfl
  · obtain ⟨n, lo, hi, rfl, h1, h2⟩ := h
    refine ⟨_, (pss_one (ps_if ((pw_or (pt_cmpR op_lt (pv 0) (pv 1) (nomark _)) (pw_or1 (pt_cmpR op_gt (pv 0) (pv 2) (nomark _))))).pt (pss_one (ps_raiseX0 fliesE body_cx (xk_OutOfRange G) (hr.n.mono (by decide)))) pss_nil)), ?_⟩
    simp only [L2.start, List.map_cons, List.map_nil, List.length_cons, List.length_nil, List.replicate, List.cons_append, List.nil_append, List.append_nil, List.getElem?_cons_zero, List.getElem?_cons_succ, List.set_cons_zero, List.set_cons_succ, wipe, tSeq, tIfS, tTest, tB, tChain, tRet, tRetN, tNext, tC, tVar, tDrop, tAsg, gName, tOp, tUn, rI0, rI, rU, tAnd, tOr, tNot, tAndV, tOrV, tNotV, tIf, tIfE, tIfV, tNil, tCons, tCB, tCall, tIsN, tNotN, t2I, tAug, ipI, tYes, tRaiseX, tTry, tLst, tTup, tDNewK, tDGet, tDIn, tDNotIn, sDPut, tBM, rAppend, rExtend, rPop, rIxL, rIxT, rIn, rEq, rNe, rCat, iList, iTup, iRng1, iRng2, iEnum, iEnumS, iZip, tKGet, tKGet1, tKGet2, tDGet1, tDGet2, tBM0, tFld, sFld, tSl, tNoPart, tPart, rSlL, gSub, rSetL, rRep, tMake, gTup, gCons, gNil, cxOf_K, List.map_append, List.length_map, V.int.injEq, V.bl.injEq, V.str.injEq, V.ref.injEq, Option.some.injEq, List.cons.injEq, exists_eq_left', exists_eq_left, exists_eq_right, exists_and_left, and_assoc, and_true, true_and, Bool.false_eq_true, if_false, if_true, reduceIte, decide_eq_true_eq, exists_const, exists_eq, exists_eq', and_self, exists_prop]
    by_cases k1 : n < lo
    · rw [if_pos k1]
      exact ⟨Nat.zero_le _, h2 fun z => by omega⟩
    · rw [if_neg k1]
      by_cases k2 : hi < n
      · rw [if_pos k2]
        exact ⟨Nat.zero_le _, h2 fun z => by omega⟩
      · rw [if_neg k2]
        exact h1 ⟨by omega, by omega⟩
end
section
variable {P : Program} {w : World} {K : PySem.W.Frag} {mg : Str → Option Value} {base : Heap} {ad : Ad}
noncomputable def pV (k : Nat) : V := .int (k : Nat)
noncomputable def stT (lv : List Int) (l : Int) (s : List Nat × List Nat) (p : Nat) : List Nat × List Nat := if l ≤ lv.getD p 0 then (s.1, s.2 ++ [p]) else (s.1 ++ (s.2.reverse ++ [p]), [])
noncomputable def turnSt (lv : List Int) (l : Int) (ps : List Nat) : List Nat × List Nat := ps.foldl (stT lv l) ([], [])
noncomputable def turnM (lv : List Int) (l : Int) (ps : List Nat) : List Nat := (turnSt lv l ps).1 ++ (turnSt lv l ps).2.reverse
theorem stT_len (lv : List Int) (l : Int) (ps : List Nat) : ∀ s, ((ps.foldl (stT lv l) s).1).length + ((ps.foldl (stT lv l) s).2).length = s.1.length + s.2.length + ps.length := by
  induction ps with
  | nil => intro s; rfl
  | cons c r ih =>
    intro s
    rw [List.foldl_cons, ih]
    unfold stT
    split <;> simp <;> omega
theorem turnM_len (lv : List Int) (l : Int) (ps : List Nat) : (turnM lv l ps).length = ps.length := by
  have := stT_len lv l ps ([], [])
  unfold turnM turnSt
  rw [List.length_append, List.length_reverse, this]
  simp
theorem stT_mem (lv : List Int) (l : Int) (n : Nat) (ps : List Nat) : ∀ s : List Nat × List Nat, (∀ p ∈ ps, p < n) → (∀ p ∈ s.1, p < n) → (∀ p ∈ s.2, p < n) → (∀ p ∈ (ps.foldl (stT lv l) s).1, p < n) ∧ (∀ p ∈ (ps.foldl (stT lv l) s).2, p < n) := by
  induction ps with
  | nil => intro s _ h1 h2; exact ⟨h1, h2⟩
  | cons c r ih =>
    intro s h0 h1 h2
    rw [List.foldl_cons]
    have hc := h0 c List.mem_cons_self
    refine ih _ (fun p hp => h0 p (List.mem_cons_of_mem _ hp)) ?_ ?_
    · unfold stT
      split
      · exact h1
      · intro p hp
        rcases List.mem_append.mp hp with q | q
        · exact h1 p q
        · rcases List.mem_append.mp q with q | q
          · exact h2 p (List.mem_reverse.mp q)
          · rw [List.mem_singleton.mp q]; exact hc
    · unfold stT
      split
      · intro p hp
        rcases List.mem_append.mp hp with q | q
        · exact h2 p q
        · rw [List.mem_singleton.mp q]; exact hc
      · intro p hp; cases hp
theorem turnM_mem (lv : List Int) (l : Int) (n : Nat) (ps : List Nat) (h : ∀ p ∈ ps, p < n) : ∀ p ∈ turnM lv l ps, p < n := by
  obtain ⟨h1, h2⟩ := stT_mem lv l n ps ([], []) h (by simp) (by simp)
  intro p hp
  rcases List.mem_append.mp hp with q | q
  · exact h1 p q
  · exact h2 p (List.mem_reverse.mp q)
noncomputable def spTurned : Sp := fun vs H Q _ => ∃ (a b : Addr) (ps : List Nat) (lv : List Int) (l : Int), vs = [.ref a, .ref b, .int l] ∧ H a = some (.lst (ps.map pV)) ∧ H b = some (.lst (lv.map V.int)) ∧ ps.length ≤ 100000 ∧ (∀ p ∈ ps, p < lv.length) ∧ ∀ D H', H D = none → Same H H' → H' D = some (.lst ((turnM lv l ps).map pV)) → Q (.ref D) H'
theorem sc_turned_at : FnScope ["places", "levels", "level", "turned", "stretch", "place"] ["places", "levels", "level"] (defScope s_turned_at) := ⟨rfl, rfl, rfl, by decide +kernel, rfl, by decide +kernel, by decide +kernel⟩
theorem ok_turned_at (G : Gs w K mg ad) : HasOk P w K mg base CX0 1 "turned_at" ["places", "levels", "level"] spTurned := by
  refine G.f_turned_at.ok sc_turned_at (fun vs H Q E h => ?_) (fun f cdv A outer s H vs Q E hr h => ?_)
  · obtain ⟨a, b, ps, lv, l, rfl, _⟩ := h
    rfl
  · obtain ⟨a, b, ps, lv, l, rfl, hA, hB, hn, hin, h⟩ := h
    refine ⟨_, (pss_cons (ps_set (i := 3) sc_turned_at.nd rfl (by first | exact Or.inl rfl | exact Or.inr rfl) (pe_lst pa_nil))
      (pss_cons (ps_set (i := 4) sc_turned_at.nd rfl (by first | exact Or.inl rfl | exact Or.inr rfl) (pe_lst pa_nil))
      (pss_cons (ps_for PassesOwn.never rfl (pi_listK (K := K) rfl (pv 0)) (pg_name (i := 5) sc_turned_at.nd rfl (by first | exact Or.inl rfl | exact Or.inr rfl))
      (pss_one (ps_if (pt_cmpR op_ge (pe_ix (ix_listK (K := K) rfl) (pv 1) (pv 5) (fun _ _ => rfl)) (pv 2) (nomark _)) (pss_one (ps_expr (pe_bm PySem.F.plainAttrs_list PySem.F.slot_list_append PySem.F.type_list_append mt_append (pv 4) (pa_cons (pv 5) pa_nil)))) (pss_cons (ps_expr (pe_bm PySem.F.plainAttrs_list PySem.F.slot_list_extend PySem.F.type_list_extend mt_extend (pv 3) (pa_cons (pe_op op_cat (pe_listRevK (K := K) rfl rfl rfl G.b_list rfl G.b_reversed (pa_cons (pv 4) pa_nil)) (pe_lst (pa_cons (pv 5) pa_nil))) pa_nil)))
      (pss_one (ps_set (i := 4) sc_turned_at.nd rfl (by first | exact Or.inl rfl | exact Or.inr rfl) (pe_lst pa_nil)))))))
      (pss_one (ps_ret (pe_op op_cat (pv 3) (pe_listRevK (K := K) rfl rfl rfl G.b_list rfl G.b_reversed (pa_cons (pv 4) pa_nil)))))))), ?_⟩
    simp only [L2.start, List.map_cons, List.map_nil, List.length_cons, List.length_nil, List.replicate, List.cons_append, List.nil_append, List.append_nil, List.getElem?_cons_zero, List.getElem?_cons_succ, List.set_cons_zero, List.set_cons_succ, wipe, tSeq, tIfS, tTest, tB, tChain, tRet, tRetN, tNext, tC, tVar, tDrop, tAsg, gName, tOp, tUn, rI0, rI, rU, tAnd, tOr, tNot, tAndV, tOrV, tNotV, tIf, tIfE, tIfV, tNil, tCons, tCB, tCall, tIsN, tNotN, t2I, tAug, ipI, tYes, tRaiseX, tTry, tLst, tTup, tDNewK, tDGet, tDIn, tDNotIn, sDPut, tBM, rAppend, rExtend, rPop, rIxL, rIxT, rIn, rEq, rNe, rCat, iList, iTup, iRng1, iRng2, iEnum, iEnumS, iZip, tKGet, tKGet1, tKGet2, tDGet1, tDGet2, tBM0, tFld, sFld, tSl, tNoPart, tPart, rSlL, gSub, rSetL, rRep, tMake, gTup, gCons, gNil, cxOf_K, List.map_append, List.length_map, V.int.injEq, V.bl.injEq, V.str.injEq, V.ref.injEq, Option.some.injEq, List.cons.injEq, exists_eq_left', exists_eq_left, exists_eq_right, exists_and_left, and_assoc, and_true, true_and, Bool.false_eq_true, if_false, if_true, reduceIte, decide_eq_true_eq, exists_const, exists_eq, exists_eq', and_self, exists_prop]
    refine ⟨Nat.zero_le _, fun lt hlt => ⟨Nat.zero_le _, fun c0 hc0 => ?_⟩⟩
    have s0 : Same H (upd H lt (.lst [])) := Same.add hlt
    have s1 := s0.trans (Same.add (o := .lst []) hc0)
    have hc00 : H c0 = none := s0.free hc0
    have nc0 : c0 ≠ lt := fun z => by rw [z, upd_same] at hc0; cases hc0
    refine ⟨_, rfl, a, rfl, ⟨_, SqL.of (s1 _ _ hA)⟩, for_list (K := K) (a := a) (xs := ps.map pV) (fun i σ H' => Same H H' ∧ H' lt = some (.lst ((turnSt lv l (ps.take i)).1.map pV)) ∧ ∃ c v5, H c = none ∧ c ≠ lt ∧ H' c = some (.lst ((turnSt lv l (ps.take i)).2.map pV)) ∧
        σ = [some (.ref a), some (.ref b), some (.int l), some (.ref lt), some (.ref c), v5])
      ⟨s1, by rw [upd_ne nc0.symm, upd_same]; rfl, c0, none, hc00, nc0, by rw [upd_same]; rfl, rfl⟩ (fun i σ H' _ p => SqL.of (p.1 _ _ hA)) ?_ ?_⟩
    · rintro i x σ H' hx ⟨sm, h1, c, v5, hc, ncl, h2, rfl⟩
      obtain ⟨p, rfl, hp⟩ := map_at hx
      have hi : i < ps.length := (List.getElem?_eq_some_iff.mp hp).1
      have hpl := hin p (List.mem_of_getElem? hp)
      have hlen := stT_len lv l (ps.take i) ([], [])
      have ets : turnSt lv l (ps.take (i + 1)) = stT lv l (turnSt lv l (ps.take i)) p := by
        unfold turnSt
        rw [take_snoc hp, List.foldl_append]
        rfl
      rw [ets]
      have hlen' : (turnSt lv l (ps.take i)).1.length + (turnSt lv l (ps.take i)).2.length ≤ 100000 := by
        unfold turnSt
        rw [hlen, List.length_take]
        simp
        omega
      generalize turnSt lv l (ps.take i) = st at h1 h2 hlen'
      have hlv : lv[p]? = some (lv.getD p 0) := by
        rw [List.getD_eq_getElem?_getD, List.getElem?_eq_getElem hpl]
        rfl
      simp only [L2.start, List.map_cons, List.map_nil, List.length_cons, List.length_nil, List.replicate, List.cons_append, List.nil_append, List.append_nil, List.getElem?_cons_zero, List.getElem?_cons_succ, List.set_cons_zero, List.set_cons_succ, wipe, tSeq, tIfS, tTest, tB, tChain, tRet, tRetN, tNext, tC, tVar, tDrop, tAsg, gName, tOp, tUn, rI0, rI, rU, tAnd, tOr, tNot, tAndV, tOrV, tNotV, tIf, tIfE, tIfV, tNil, tCons, tCB, tCall, tIsN, tNotN, t2I, tAug, ipI, tYes, tLRev, tLRng, rMax, rMin, iRng3, tRaiseX, tTry, tLst, tTup, tDNewK, tDGet, tDIn, tDNotIn, sDPut, tBM, rAppend, rExtend, rPop, rIxL, rIxT, rIn, rEq, rNe, rCat, iList, iTup, iRng1, iRng2, iEnum, iEnumS, iZip, tKGet, tKGet1, tKGet2, tDGet1, tDGet2, tBM0, tFld, sFld, tSl, tNoPart, tPart, rSlL, gSub, rSetL, rRep, tMake, gTup, gCons, gNil, cxOf_K, List.map_append, List.length_map, V.int.injEq, V.bl.injEq, V.str.injEq, V.ref.injEq, Option.some.injEq, List.cons.injEq, exists_eq_left', exists_eq_left, exists_eq_right, exists_and_left, and_assoc, and_true, true_and, Bool.false_eq_true, if_false, if_true, reduceIte, decide_eq_true_eq, exists_const, exists_eq, exists_eq', and_self, exists_prop]
      refine ⟨_, _, rfl, SqL.of (sm _ _ hB), _, atI_map hlv, _, rfl, ?_⟩
      have hc' : H' c ≠ none := by rw [h2]; simp
      by_cases k : l ≤ lv.getD p 0
      · rw [if_pos k]
        have e : stT lv l st p = (st.1, st.2 ++ [p]) := by unfold stT; rw [if_pos k]
        rw [e]
        refine ⟨.inl ⟨rfl, _, SqL.of h2⟩, _, h2, by rw [List.length_map, sizeLine_eq]; omega, sm.updn hc, by rw [upd_ne ncl.symm]; exact h1, c, hc, ncl, ?_, rfl⟩
        rw [upd_same, List.map_append]
        rfl
      · rw [if_neg k]
        have e : stT lv l st p = (st.1 ++ (st.2.reverse ++ [p]), []) := by unfold stT; rw [if_neg k]
        rw [e]
        refine ⟨.inl ⟨rfl, _, SqL.of h1⟩, _, SqL.of h2, fun D hD => ⟨by decide, fun p1 hp1 => ?_⟩⟩
        have nD1 : D ≠ p1 := fun z => by rw [z, upd_same] at hp1; cases hp1
        have hp1' : H' p1 = none := by rw [upd_ne nD1.symm] at hp1; exact hp1
        refine ⟨_, by rw [upd_ne nD1, upd_same], _, upd_same, by rw [List.length_reverse, List.length_map, sizeLine_eq]; show _ + 1 ≤ _; omega, fun p2 hp2 => ?_⟩
        have n21 : p2 ≠ p1 := fun z => by rw [z, upd_same] at hp2; cases hp2
        have n2D : p2 ≠ D := fun z => by rw [z, upd_ne nD1, upd_same] at hp2; cases hp2
        have hp2' : H' p2 = none := by rw [upd_ne n21, upd_ne n2D] at hp2; exact hp2
        have nlt1 : lt ≠ p1 := ne_of_none h1 hp1'
        have nlt2 : lt ≠ p2 := ne_of_none h1 hp2'
        have nltD : lt ≠ D := ne_of_none h1 hD
        refine ⟨_, by rw [upd_ne nlt2, upd_ne nlt1, upd_ne nltD]; exact h1, _, upd_same, by rw [List.length_append, List.length_reverse, List.length_map, List.length_map, sizeLine_eq]; show _ + (_ + 1) ≤ _; omega, by decide, fun p3 hp3 => ?_⟩
        have n3lt : p3 ≠ lt := fun z => by rw [z, upd_same] at hp3; cases hp3
        have sA : Same H (upd (upd (upd (upd H' D (.lst (st.2.map pV).reverse)) p1 (.lst [pV p])) p2 (.lst ((st.2.map pV).reverse ++ [pV p]))) lt (.lst (st.1.map pV ++ ((st.2.map pV).reverse ++ [pV p])))) :=
          (((sm.updn (sm.free hD)).updn (sm.free hp1')).updn (sm.free hp2')).updn hlt
        refine ⟨sA.trans (Same.add hp3), ?_, p3, sA.free hp3, n3lt, by rw [upd_same]; rfl, rfl⟩
        rw [upd_ne n3lt.symm, upd_same, List.map_append, List.map_append, List.map_reverse]
        rfl
    · rintro σ H' ⟨sm, h1, c, v5, hc, ncl, h2, rfl⟩
      simp only [L2.start, List.map_cons, List.map_nil, List.length_cons, List.length_nil, List.replicate, List.cons_append, List.nil_append, List.append_nil, List.getElem?_cons_zero, List.getElem?_cons_succ, List.set_cons_zero, List.set_cons_succ, wipe, tSeq, tIfS, tTest, tB, tChain, tRet, tRetN, tNext, tC, tVar, tDrop, tAsg, gName, tOp, tUn, rI0, rI, rU, tAnd, tOr, tNot, tAndV, tOrV, tNotV, tIf, tIfE, tIfV, tNil, tCons, tCB, tCall, tIsN, tNotN, t2I, tAug, ipI, tYes, tLRev, tLRng, rMax, rMin, iRng3, tRaiseX, tTry, tLst, tTup, tDNewK, tDGet, tDIn, tDNotIn, sDPut, tBM, rAppend, rExtend, rPop, rIxL, rIxT, rIn, rEq, rNe, rCat, iList, iTup, iRng1, iRng2, iEnum, iEnumS, iZip, tKGet, tKGet1, tKGet2, tDGet1, tDGet2, tBM0, tFld, sFld, tSl, tNoPart, tPart, rSlL, gSub, rSetL, rRep, tMake, gTup, gCons, gNil, cxOf_K, List.map_append, List.length_map, V.int.injEq, V.bl.injEq, V.str.injEq, V.ref.injEq, Option.some.injEq, List.cons.injEq, exists_eq_left', exists_eq_left, exists_eq_right, exists_and_left, and_assoc, and_true, true_and, Bool.false_eq_true, if_false, if_true, reduceIte, decide_eq_true_eq, exists_const, exists_eq, exists_eq', and_self, exists_prop]
      rw [List.length_map, List.take_length] at h1 h2
      have hlen := stT_len lv l ps ([], [])
      have hlen' : (turnSt lv l ps).1.length + (turnSt lv l ps).2.length ≤ 100000 := by
        unfold turnSt
        rw [hlen]
        simp
        omega
      refine ⟨_, SqL.of h2, fun D hD => ⟨_, by rw [upd_ne (ne_of_none h1 hD)]; exact h1, _, upd_same, by rw [List.length_reverse, List.length_map, List.length_map, sizeLine_eq]; omega, fun p2 hp2 => ?_⟩⟩
      have n2D : p2 ≠ D := fun z => by rw [z, upd_same] at hp2; cases hp2
      have sA := (sm.updn (o := .lst ((turnSt lv l ps).2.map pV).reverse) (sm.free hD))
      refine h p2 _ (sA.free hp2) (sA.trans (Same.add hp2)) ?_
      rw [upd_same]
      unfold turnM
      rw [List.map_append, List.map_reverse]
end
section
variable {P : Program} {w : World} {K : PySem.W.Frag} {mg : Str → Option Value} {base : Heap} {ad : Ad}
noncomputable def topI : List Int → Int
  | [] => 0
  | x :: r => r.foldl max x
noncomputable def lowI : List Int → Int
  | [] => 0
  | x :: r => r.foldl min x
theorem fmax_ge (r : List Int) : ∀ x : Int, x ≤ r.foldl max x ∧ ∀ y ∈ r, y ≤ r.foldl max x := by
  induction r with
  | nil => intro x; exact ⟨Int.le_refl _, fun y hy => nomatch hy⟩
  | cons z r ih =>
    intro x
    rw [List.foldl_cons]
    obtain ⟨h1, h2⟩ := ih (max x z)
    refine ⟨by omega, fun y hy => ?_⟩
    rcases List.mem_cons.mp hy with rfl | hy
    · omega
    · exact h2 y hy
theorem fmax_mem (r : List Int) : ∀ x : Int, r.foldl max x = x ∨ r.foldl max x ∈ r := by
  induction r with
  | nil => intro x; exact .inl rfl
  | cons z r ih =>
    intro x
    rw [List.foldl_cons]
    rcases ih (max x z) with h | h
    · rw [h]
      rcases Int.le_total x z with k | k
      · right; rw [Int.max_eq_right k]; exact List.mem_cons_self
      · left; exact Int.max_eq_left k
    · right; exact List.mem_cons_of_mem _ h
theorem fmin_le (r : List Int) : ∀ x : Int, r.foldl min x ≤ x ∧ ∀ y ∈ r, r.foldl min x ≤ y := by
  induction r with
  | nil => intro x; exact ⟨Int.le_refl _, fun y hy => nomatch hy⟩
  | cons z r ih =>
    intro x
    rw [List.foldl_cons]
    obtain ⟨h1, h2⟩ := ih (min x z)
    refine ⟨by omega, fun y hy => ?_⟩
    rcases List.mem_cons.mp hy with rfl | hy
    · omega
    · exact h2 y hy
theorem fmin_mem (r : List Int) : ∀ x : Int, r.foldl min x = x ∨ r.foldl min x ∈ r := by
  induction r with
  | nil => intro x; exact .inl rfl
  | cons z r ih =>
    intro x
    rw [List.foldl_cons]
    rcases ih (min x z) with h | h
    · rw [h]
      rcases Int.le_total x z with k | k
      · left; exact Int.min_eq_left k
      · right; rw [Int.min_eq_right k]; exact List.mem_cons_self
    · right; exact List.mem_cons_of_mem _ h
theorem top_is {l : List Int} {m : Int} (h1 : m ∈ l) (h2 : ∀ y ∈ l, y ≤ m) : m = topI l := by
  cases l with
  | nil => cases h1
  | cons x r =>
    show m = r.foldl max x
    obtain ⟨a, b⟩ := fmax_ge r x
    have h3 : r.foldl max x ∈ x :: r := by
      rcases fmax_mem r x with h | h
      · rw [h]; exact List.mem_cons_self
      · exact List.mem_cons_of_mem _ h
    have h4 := h2 _ h3
    rcases List.mem_cons.mp h1 with rfl | h1
    · omega
    · have := b m h1; omega
theorem low_is {l : List Int} {m : Int} (h1 : m ∈ l) (h2 : ∀ y ∈ l, m ≤ y) : m = lowI l := by
  cases l with
  | nil => cases h1
  | cons x r =>
    show m = r.foldl min x
    obtain ⟨a, b⟩ := fmin_le r x
    have h3 : r.foldl min x ∈ x :: r := by
      rcases fmin_mem r x with h | h
      · rw [h]; exact List.mem_cons_self
      · exact List.mem_cons_of_mem _ h
    have h4 := h2 _ h3
    rcases List.mem_cons.mp h1 with rfl | h1
    · omega
    · have := b m h1; omega
noncomputable def oddsI (lv : List Int) : List Int := lv.filter fun x => decide (x % 2 = 1)
noncomputable def turnsM (lv : List Int) (n : Nat) : List Nat := (List.range n).foldl (fun ps i => turnM lv (topI lv - (i : Nat)) ps) (List.range lv.length)
noncomputable def seenM (lv : List Int) : List Nat := if oddsI lv = [] then List.range lv.length else turnsM lv (topI lv - (lowI (oddsI lv) - 1)).toNat
theorem turnsM_succ (lv : List Int) (n : Nat) : turnsM lv (n + 1) = turnM lv (topI lv - (n : Nat)) (turnsM lv n) := by
  unfold turnsM
  rw [List.range_succ, List.foldl_append]
  rfl
theorem turnsM_len (lv : List Int) : ∀ n, (turnsM lv n).length = lv.length
  | 0 => by unfold turnsM; simp
  | n + 1 => by rw [turnsM_succ, turnM_len, turnsM_len lv n]
theorem turnsM_mem (lv : List Int) : ∀ n, ∀ p ∈ turnsM lv n, p < lv.length
  | 0 => by unfold turnsM; simp
  | n + 1 => by rw [turnsM_succ]; exact turnM_mem _ _ _ _ (turnsM_mem lv n)
theorem seenM_len (lv : List Int) : (seenM lv).length = lv.length := by
  unfold seenM
  split
  · simp
  · exact turnsM_len lv _
noncomputable def spSeen : Sp := fun vs H Q _ => ∃ (a : Addr) (lv : List Int), vs = [.ref a] ∧ H a = some (.lst (lv.map V.int)) ∧ lv.length ≤ 100000 ∧ (∀ x ∈ lv, 0 ≤ x ∧ x ≤ 1000000) ∧ ∀ D H', H D = none → Same H H' → H' D = some (.lst ((seenM lv).map pV)) → Q (.ref D) H'
theorem filter_ints (lv : List Int) : (lv.map V.int).filter (fun v => match v with | .int x => decide (x % 2 = 1) | _ => false) = (oddsI lv).map V.int := by
  unfold oddsI
  rw [List.filter_map]
  rfl
theorem sc_order_seen : FnScope ["levels", "places", "odd", "level"] ["levels"] (defScope s_order_seen) := ⟨rfl, rfl, rfl, by decide +kernel, rfl, by decide +kernel, by decide +kernel⟩
theorem ok_order_seen (G : Gs w K mg ad) : HasOk P w K mg base CX0 2 "order_seen" ["levels"] spSeen := by
  refine G.f_order_seen.ok sc_order_seen (fun vs H Q E h => ?_) (fun f cdv A outer s H vs Q E hr h => ?_)
  · obtain ⟨a, lv, rfl, _⟩ := h
    rfl
  · obtain ⟨a, lv, rfl, hA, hn, hb, h⟩ := h
    refine ⟨_, (pss_cons (ps_set (i := 1) sc_order_seen.nd rfl (by first | exact Or.inl rfl | exact Or.inr rfl) (pe_listRng rfl rfl G.b_list rfl G.b_range (pa_cons (pe_callB (call_len_seqK (K := K) rfl) (by rfl) G.b_len PySem.boot_len (pa_cons (pv 0) pa_nil)) pa_nil)))
      (pss_cons (ps_setLc (i := 2) rfl sc_order_seen.nd rfl rfl (sw_true rfl rfl rfl (by decide +kernel)) (pi_listK (K := K) rfl (pv 0)) (own := [("level", 3)]) (blkOk_by rfl) (fun s H C cl fp => (pg_name (i := 3) sc_order_seen.nd rfl (by first | exact Or.inl rfl | exact Or.inr rfl))) (fun s H C cl fp => (pts_one (pt_cmpR op_eq (pe_op op_mod (pv 3) pe_int) pe_int (nomark _)))) (fun s H C cl fp => (pv 3)))
      (pss_cons (ps_if (pt_not (pt_truth (pv 2) (fun _ => rfl))) (pss_one (ps_ret (pv 1))) pss_nil)
      (pss_cons (ps_for PassesOwn.never rfl (pi_range3 rfl G.b_range (pa_cons (pe_callB (cr_maxK (K := K) rfl rfl) (by rfl) G.b_max PyProof.Rows.boot_max (pa_cons (pv 0) pa_nil)) (pa_cons (pe_op op_sub (pe_callB (cr_minK (K := K) rfl rfl) (by rfl) G.b_min PyProof.Rows.boot_min (pa_cons (pv 2) pa_nil)) pe_int) (pa_cons (pe_un un_neg pe_int) pa_nil)))) (pg_name (i := 3) sc_order_seen.nd rfl (by first | exact Or.inl rfl | exact Or.inr rfl))
      (pss_one (ps_set (i := 1) sc_order_seen.nd rfl (by first | exact Or.inl rfl | exact Or.inr rfl) (pe_c0 (ok_turned_at G) (hr.mono (by decide)) (pa_cons (pv 1) (pa_cons (pv 0) (pa_cons (pv 3) pa_nil)))))))
      (pss_one (ps_ret (pv 1))))))), ?_⟩
    simp only [L2.start, List.map_cons, List.map_nil, List.length_cons, List.length_nil, List.replicate, List.cons_append, List.nil_append, List.append_nil, List.getElem?_cons_zero, List.getElem?_cons_succ, List.set_cons_zero, List.set_cons_succ, wipe, tSeq, tIfS, tTest, tB, tChain, tRet, tRetN, tNext, tC, tVar, tDrop, tAsg, gName, tOp, tUn, rI0, rI, rU, tAnd, tOr, tNot, tAndV, tOrV, tNotV, tIf, tIfE, tIfV, tNil, tCons, tCB, tCall, tIsN, tNotN, t2I, tAug, ipI, tYes, tLRev, tLRng, rMax, rMin, iRng3, tRaiseX, tTry, tLst, tTup, tDNewK, tDGet, tDIn, tDNotIn, sDPut, tBM, rAppend, rExtend, rPop, rIxL, rIxT, rIn, rEq, rNe, rCat, iList, iTup, iRng1, iRng2, iEnum, iEnumS, iZip, tKGet, tKGet1, tKGet2, tDGet1, tDGet2, tBM0, tFld, sFld, tSl, tNoPart, tPart, rSlL, gSub, rSetL, rRep, tMake, gTup, gCons, gNil, cxOf_K, List.map_append, List.length_map, V.int.injEq, V.bl.injEq, V.str.injEq, V.ref.injEq, Option.some.injEq, List.cons.injEq, exists_eq_left', exists_eq_left, exists_eq_right, exists_and_left, and_assoc, and_true, true_and, Bool.false_eq_true, if_false, if_true, reduceIte, decide_eq_true_eq, exists_const, exists_eq, exists_eq', and_self, exists_prop]
    refine ⟨_, .inl (SqL.of hA), lv.length, by rw [List.length_map], hn, fun D hD => ?_⟩
    have s0 : Same H (upd H D (.lst ((List.range lv.length).map fun (k : Nat) => V.int k))) := Same.add hD
    have eD : (fun (k : Nat) => V.int k) = pV := rfl
    rw [eD] at s0 ⊢
    refine tlc_gen (xs := lv.map V.int) (fun v => match v with | .int x => decide (x % 2 = 1) | _ => false) (fun _ x y => x = y) (fun _ _ _ _ _ e => e) (fun _ r => ⟨_, rfl, _, rfl, ⟨_, SqL.of (s0 _ _ hA)⟩, r⟩) (runs_list (SqL.of (s0 _ _ hA))) (by rw [List.length_map, sizeLine_eq]; omega) (fun i x H' hx s1 T Z hT hZ => ?_) (fun c ys H1 hc s1 hc' pr => ?_)
    · obtain ⟨x, rfl, hx⟩ := map_at hx
      simp only [L2.start, List.map_cons, List.map_nil, List.length_cons, List.length_nil, List.replicate, List.cons_append, List.nil_append, List.append_nil, List.getElem?_cons_zero, List.getElem?_cons_succ, List.set_cons_zero, List.set_cons_succ, wipe, tSeq, tIfS, tTest, tB, tChain, tRet, tRetN, tNext, tC, tVar, tDrop, tAsg, gName, tOp, tUn, rI0, rI, rU, tAnd, tOr, tNot, tAndV, tOrV, tNotV, tIf, tIfE, tIfV, tNil, tCons, tCB, tCall, tIsN, tNotN, t2I, tAug, ipI, tYes, tLRev, tLRng, rMax, rMin, iRng3, tRaiseX, tTry, tLst, tTup, tDNewK, tDGet, tDIn, tDNotIn, sDPut, tBM, rAppend, rExtend, rPop, rIxL, rIxT, rIn, rEq, rNe, rCat, iList, iTup, iRng1, iRng2, iEnum, iEnumS, iZip, tKGet, tKGet1, tKGet2, tDGet1, tDGet2, tBM0, tFld, sFld, tSl, tNoPart, tPart, rSlL, gSub, rSetL, rRep, tMake, gTup, gCons, gNil, cxOf_K, List.map_append, List.length_map, V.int.injEq, V.bl.injEq, V.str.injEq, V.ref.injEq, Option.some.injEq, List.cons.injEq, exists_eq_left', exists_eq_left, exists_eq_right, exists_and_left, and_assoc, and_true, true_and, Bool.false_eq_true, if_false, if_true, reduceIte, decide_eq_true_eq, exists_const, exists_eq, exists_eq', and_self, exists_prop]
      refine ⟨by decide, ?_⟩
      by_cases k : x % 2 = 1
      · rw [if_pos k]
        exact ⟨rfl, hT (by simpa using k) _ H' (fun _ _ e => e) rfl⟩
      · rw [if_neg k]
        exact ⟨rfl, hZ (by simpa using k) H' (fun _ _ e => e)⟩
    · rw [filter_ints] at pr
      have ey : ys = (oddsI lv).map V.int := by
        clear hc'
        generalize (oddsI lv).map V.int = zs at pr
        induction pr with
        | nil => rfl
        | cons e _ ih => rw [← e, ih]
      subst ey
      have hc0 : H c = none := s0.free hc
      have hD1 : H1 D = some (.lst ((List.range lv.length).map pV)) := s1 _ _ upd_same
      have sm1 : Same H H1 := s0.trans s1
      refine ⟨_, .inl ⟨_, SqL.of hc', rfl⟩, ?_⟩
      by_cases ko : oddsI lv = []
      · rw [ko]
        simp only [List.map_nil, List.isEmpty_nil, Bool.not_true, Bool.not_false, if_true]
        refine h D _ hD sm1 ?_
        rw [hD1]
        unfold seenM
        rw [if_pos ko]
      · have e1 : (!((oddsI lv).map V.int).isEmpty) = true := by
          cases hx : oddsI lv with
          | nil => exact absurd hx ko
          | cons x r => rfl
        rw [e1]
        simp only [Bool.not_true, Bool.false_eq_true, if_false]
        have hne : 0 < (oddsI lv).length := List.length_pos_iff.mpr ko
        have hsub : ∀ x ∈ oddsI lv, x ∈ lv := fun x hx => (List.mem_filter.mp hx).1
        have hne2 : 0 < lv.length := by
          obtain ⟨x, hx⟩ := List.exists_mem_of_ne_nil _ ko
          exact List.length_pos_of_mem (hsub x hx)
        have hit : ∀ R : It → Hp → Prop, (∀ m lo : Int, m ∈ lv → (∀ y ∈ lv, y ≤ m) → lo ∈ oddsI lv → (∀ y ∈ oddsI lv, lo ≤ y) → R (Itc m (-1) (m - (lo - 1)).toNat) H1) →
            iRng3 (tCons (tCB (rMax K) (tCons (tVar 0) tNil)) (tCons (tOp (rI0 fun i j => V.int (i - j)) (tCB (rMin K) (tCons (tVar 2) tNil)) (tC (V.int 1))) (tCons (tUn (rU fun i => V.int (-i)) (tC (V.int 1))) tNil))) [some (.ref a), some (.ref D), some (.ref c), none] H1 R := fun R hR => by
          simp only [L2.start, List.map_cons, List.map_nil, List.length_cons, List.length_nil, List.replicate, List.cons_append, List.nil_append, List.append_nil, List.getElem?_cons_zero, List.getElem?_cons_succ, List.set_cons_zero, List.set_cons_succ, wipe, tSeq, tIfS, tTest, tB, tChain, tRet, tRetN, tNext, tC, tVar, tDrop, tAsg, gName, tOp, tUn, rI0, rI, rU, tAnd, tOr, tNot, tAndV, tOrV, tNotV, tIf, tIfE, tIfV, tNil, tCons, tCB, tCall, tIsN, tNotN, t2I, tAug, ipI, tYes, tLRev, tLRng, rMax, rMin, iRng3, tRaiseX, tTry, tLst, tTup, tDNewK, tDGet, tDIn, tDNotIn, sDPut, tBM, rAppend, rExtend, rPop, rIxL, rIxT, rIn, rEq, rNe, rCat, iList, iTup, iRng1, iRng2, iEnum, iEnumS, iZip, tKGet, tKGet1, tKGet2, tDGet1, tDGet2, tBM0, tFld, sFld, tSl, tNoPart, tPart, rSlL, gSub, rSetL, rRep, tMake, gTup, gCons, gNil, cxOf_K, List.map_append, List.length_map, V.int.injEq, V.bl.injEq, V.str.injEq, V.ref.injEq, Option.some.injEq, List.cons.injEq, exists_eq_left', exists_eq_left, exists_eq_right, exists_and_left, and_assoc, and_true, true_and, Bool.false_eq_true, if_false, if_true, reduceIte, decide_eq_true_eq, exists_const, exists_eq, exists_eq', and_self, exists_prop]
          refine ⟨_, SqL.of (sm1 _ _ hA), hne2, fun m m1 m2 => ?_⟩
          refine ⟨_, SqL.of hc', hne, fun lo l1 l2 => ?_⟩
          have bm := hb m m1
          have bl := hb lo (hsub lo l1)
          exact ⟨_, RgC.neg (by omega) (by omega) (by omega) (by omega), hR m lo m1 m2 l1 l2⟩
        refine hit _ fun m lo m1 m2 l1 l2 => ?_
        refine for_rangeC (fun i σ H' => Same H1 H' ∧ ∃ q v3, H q = none ∧ H' q = some (.lst ((turnsM lv i).map pV)) ∧ σ = [some (.ref a), some (.ref q), some (.ref c), v3]) ⟨fun _ _ e => e, D, none, hD, hD1, rfl⟩ ?_ ?_
        · rintro i σ H' hi ⟨sm, q, v3, hq, hq', rfl⟩
          simp only [L2.start, List.map_cons, List.map_nil, List.length_cons, List.length_nil, List.replicate, List.cons_append, List.nil_append, List.append_nil, List.getElem?_cons_zero, List.getElem?_cons_succ, List.set_cons_zero, List.set_cons_succ, wipe, tSeq, tIfS, tTest, tB, tChain, tRet, tRetN, tNext, tC, tVar, tDrop, tAsg, gName, tOp, tUn, rI0, rI, rU, tAnd, tOr, tNot, tAndV, tOrV, tNotV, tIf, tIfE, tIfV, tNil, tCons, tCB, tCall, tIsN, tNotN, t2I, tAug, ipI, tYes, tLRev, tLRng, rMax, rMin, iRng3, tRaiseX, tTry, tLst, tTup, tDNewK, tDGet, tDIn, tDNotIn, sDPut, tBM, rAppend, rExtend, rPop, rIxL, rIxT, rIn, rEq, rNe, rCat, iList, iTup, iRng1, iRng2, iEnum, iEnumS, iZip, tKGet, tKGet1, tKGet2, tDGet1, tDGet2, tBM0, tFld, sFld, tSl, tNoPart, tPart, rSlL, gSub, rSetL, rRep, tMake, gTup, gCons, gNil, cxOf_K, List.map_append, List.length_map, V.int.injEq, V.bl.injEq, V.str.injEq, V.ref.injEq, Option.some.injEq, List.cons.injEq, exists_eq_left', exists_eq_left, exists_eq_right, exists_and_left, and_assoc, and_true, true_and, Bool.false_eq_true, if_false, if_true, reduceIte, decide_eq_true_eq, exists_const, exists_eq, exists_eq', and_self, exists_prop]
          refine ⟨q, a, turnsM lv i, lv, _, rfl, hq', sm _ _ (sm1 _ _ hA), by rw [turnsM_len]; exact hn, turnsM_mem lv i, fun D2 H2 hD2 s2 hD2' => ?_⟩
          refine ⟨sm.trans s2, D2, (sm1.trans sm).free hD2, ?_, rfl⟩
          rw [hD2', turnsM_succ, ← top_is m1 m2]
          have : m + (i : Int) * -1 = m - (i : Int) := by omega
          rw [this]
        · rintro σ H' ⟨sm, q, v3, hq, hq', rfl⟩
          simp only [L2.start, List.map_cons, List.map_nil, List.length_cons, List.length_nil, List.replicate, List.cons_append, List.nil_append, List.append_nil, List.getElem?_cons_zero, List.getElem?_cons_succ, List.set_cons_zero, List.set_cons_succ, wipe, tSeq, tIfS, tTest, tB, tChain, tRet, tRetN, tNext, tC, tVar, tDrop, tAsg, gName, tOp, tUn, rI0, rI, rU, tAnd, tOr, tNot, tAndV, tOrV, tNotV, tIf, tIfE, tIfV, tNil, tCons, tCB, tCall, tIsN, tNotN, t2I, tAug, ipI, tYes, tLRev, tLRng, rMax, rMin, iRng3, tRaiseX, tTry, tLst, tTup, tDNewK, tDGet, tDIn, tDNotIn, sDPut, tBM, rAppend, rExtend, rPop, rIxL, rIxT, rIn, rEq, rNe, rCat, iList, iTup, iRng1, iRng2, iEnum, iEnumS, iZip, tKGet, tKGet1, tKGet2, tDGet1, tDGet2, tBM0, tFld, sFld, tSl, tNoPart, tPart, rSlL, gSub, rSetL, rRep, tMake, gTup, gCons, gNil, cxOf_K, List.map_append, List.length_map, V.int.injEq, V.bl.injEq, V.str.injEq, V.ref.injEq, Option.some.injEq, List.cons.injEq, exists_eq_left', exists_eq_left, exists_eq_right, exists_and_left, and_assoc, and_true, true_and, Bool.false_eq_true, if_false, if_true, reduceIte, decide_eq_true_eq, exists_const, exists_eq, exists_eq', and_self, exists_prop]
          refine h q H' hq (sm1.trans sm) ?_
          rw [hq']
          unfold seenM
          rw [if_neg ko, ← top_is m1 m2, ← low_is l1 l2]
end
section
variable {P : Program} {w : World} {K : PySem.W.Frag} {mg : Str → Option Value} {base : Heap} {ad : Ad}
theorem levelsI_eqlen (side : Int) (ns : List Int) : (levelsI side ns).length = ns.length := by
  unfold levelsI
  have hin := paras_in (ns.map clsN)
  have hs := paras_sum (ns.map clsN)
  generalize parasM (ns.map clsN) = q at hin hs
  rw [List.length_map] at hs
  rw [← hs]
  clear hs
  induction q with
  | nil => rfl
  | cons r q ih =>
    rw [List.flatMap_cons, List.length_append, paraLv_len, ih fun x hx => hin x (List.mem_cons_of_mem _ hx)]
    have h0 := hin r List.mem_cons_self
    have h1 : (partOf (ns.map clsN) r).length = r.2 - r.1 := by unfold partOf; rw [List.length_take, List.length_drop]; omega
    have h2 : sumL (r :: q) = (r.2 - r.1) + sumL q := by simp [sumL]
    omega
theorem setAll_all {Pp : Int → Prop} (ps : List (Nat × Int)) : ∀ l : List Int, (∀ x ∈ l, Pp x) → (∀ p ∈ ps, Pp p.2) → ∀ x ∈ setAll l ps, Pp x := by
  induction ps with
  | nil => intro l h _; exact h
  | cons p r ih =>
    intro l h h2
    refine ih _ (fun x hx => ?_) fun q hq => h2 q (List.mem_cons_of_mem _ hq)
    rcases List.mem_or_eq_of_mem_set hx with q | q
    · exact h x q
    · rw [q]; exact h2 p List.mem_cons_self
theorem paraLv_b (side : Int) (h0 : 0 ≤ side) (h2 : side ≤ 2) (cs : List Sh32.Class) (hn : cs.length ≤ 100000) : ∀ x ∈ paraLv side cs, 0 ≤ x ∧ x ≤ 1002 := by
  have F := fits side h0 h2 cs hn
  unfold paraLv
  have : ∀ (q : List (Nat × List Nat)) (z : List Int), (∀ r ∈ q, r.1 ≤ 1000) → (∀ x ∈ z, 0 ≤ x ∧ x ≤ 1002) → ∀ x ∈ q.foldl (fun l r => setAll l (r.2.zip (runLv r.1 (r.2.map fun k => cs.getD k .O)))) z, 0 ≤ x ∧ x ≤ 1002 := fun q => by
    induction q with
    | nil => intro z _ h; exact h
    | cons r q ih =>
      intro z hq h
      rw [List.foldl_cons]
      refine ih _ (fun y hy => hq y (List.mem_cons_of_mem _ hy)) (setAll_all _ _ h fun p hp => ?_)
      have h3 := (List.of_mem_zip (show (p.1, p.2) ∈ _ from hp)).2
      unfold runLv at h3
      obtain ⟨c, _, e⟩ := List.mem_map.mp h3
      have h4 := hq r List.mem_cons_self
      rw [← e]
      unfold highM
      split
      · split <;> omega
      · split
        · omega
        · split <;> omega
  refine this _ _ (fun r hr => (F r hr).1) fun x hx => ?_
  rw [List.eq_of_mem_replicate hx]
  decide
theorem levelsI_b (side : Int) (h0 : 0 ≤ side) (h2 : side ≤ 2) (ns : List Int) (hn : ns.length ≤ 100000) : ∀ x ∈ levelsI side ns, 0 ≤ x ∧ x ≤ 1002 := by
  unfold levelsI
  intro x hx
  obtain ⟨r, _, hx⟩ := List.mem_flatMap.mp hx
  refine paraLv_b side h0 h2 _ ?_ x hx
  unfold partOf
  rw [List.length_take, List.length_drop, List.length_map]
  omega
theorem tlc_of {wi : TI} {H : Hp} {g : TG} {tt : TT} {te : TE} {vs : List Nat} {σ : St} {Q : VK} (C : It → Hp → Prop) (hw : ∀ R : It → Hp → Prop, (∀ J H1, C J H1 → R J H1) → wi σ H R) (hc : ∀ J H1, C J H1 → tLc (fun _ _ R => R J H1) g tt te vs σ H Q) : tLc wi g tt te vs σ H Q := hw _ hc
noncomputable def cutL (l : List Int) (r : Nat × Nat) : List Int := (l.drop r.1).take (r.2 - r.1)
noncomputable def partSeen (lv : List Int) (r : Nat × Nat) : List Nat := (seenM (cutL lv r)).map fun p => r.1 + p
noncomputable def textSeenI (side : Int) (ns : List Int) : List Nat := (parasM (ns.map clsN)).flatMap (partSeen (levelsI side ns))
noncomputable def spTextSeen (K : PySem.W.Frag) : Sp := fun vs H Q _ => ∃ (a : Addr) (ns : List Int) (side : Int), vs = [.ref a, .int side] ∧ SqL K H a (ns.map V.int) ∧ ns.length ≤ 100000 ∧ 0 ≤ side ∧ side ≤ 2 ∧ ∀ D H', H D = none → Same H H' → H' D = some (.lst ((textSeenI side ns).map pV)) → Q (.ref D) H'
theorem partSeen_len (lv : List Int) (r : Nat × Nat) : (partSeen lv r).length ≤ r.2 - r.1 := by
  unfold partSeen cutL
  rw [List.length_map, seenM_len, List.length_take]
  omega
theorem partsSeen_len (lv : List Int) (q : List (Nat × Nat)) : (q.flatMap (partSeen lv)).length ≤ sumL q := by
  induction q with
  | nil => simp [sumL]
  | cons r q ih =>
    rw [List.flatMap_cons, List.length_append]
    have h1 := partSeen_len lv r
    have h2 : sumL (r :: q) = (r.2 - r.1) + sumL q := by simp [sumL]
    omega
theorem textSeenI_len (side : Int) (ns : List Int) : (textSeenI side ns).length ≤ ns.length := by
  unfold textSeenI
  have := partsSeen_len (levelsI side ns) (parasM (ns.map clsN))
  rw [paras_sum, List.length_map] at this
  exact this
theorem sc_text_seen : FnScope ["text", "side", "levels", "found", "begin", "end", "place"] ["text", "side"] (defScope s_text_seen) := ⟨rfl, rfl, rfl, by decide +kernel, rfl, by decide +kernel, by decide +kernel⟩
theorem ok_text_seen (G : Gs w K mg ad) : HasOk P w K mg base CX0 7 "text_seen" ["text", "side"] (spTextSeen K) := by
  refine G.f_text_seen.ok sc_text_seen (fun vs H Q E h => ?_) (fun f cdv A outer s H vs Q E hr h => ?_)
  · obtain ⟨a, ns, side, rfl, _⟩ := h
    rfl
  · obtain ⟨a, ns, side, rfl, hS, hn, hs0, hs2, h⟩ := h
    refine ⟨_, (pss_cons (ps_set (i := 2) sc_text_seen.nd rfl (by first | exact Or.inl rfl | exact Or.inr rfl) (pe_c0 (ok_levels_of G) (hr.mono (by decide)) (pa_cons (pv 0) (pa_cons (pv 1) pa_nil))))
      (pss_cons (ps_set (i := 3) sc_text_seen.nd rfl (by first | exact Or.inl rfl | exact Or.inr rfl) (pe_lst pa_nil))
      (pss_cons (ps_for PassesOwn.never rfl (pi_listK (K := K) rfl (pe_c0 (ok_paragraphs_of G) (hr.mono (by decide)) (pa_cons (pe_c0 (ok_classes_of G) (hr.mono (by decide)) (pa_cons (pv 0) pa_nil)) pa_nil))) (pg_tupK (K := K) (n := 2) rfl rfl (pgs_cons (pg_name (i := 4) sc_text_seen.nd rfl (by first | exact Or.inl rfl | exact Or.inr rfl)) (pgs_cons (pg_name (i := 5) sc_text_seen.nd rfl (by first | exact Or.inl rfl | exact Or.inr rfl)) pgs_nil)))
      (pss_one (ps_expr (pe_bm PySem.F.plainAttrs_list PySem.F.slot_list_extend PySem.F.type_list_extend mt_extend (pv 3) (pa_cons (pe_lc rfl sc_text_seen.nd (pi_listK (K := K) rfl (pe_c0 (ok_order_seen G) (hr.mono (by decide)) (pa_cons (pe_slice (sl_listK (K := K) rfl) (pv 2) (po_some (pv 4)) (po_some (pv 5))) pa_nil))) (own := [("place", 6)]) (blkOk_by rfl) (fun s H C cl fp => (pg_name (i := 6) sc_text_seen.nd rfl (by first | exact Or.inl rfl | exact Or.inr rfl))) (fun s H C cl fp => pts_nil) (fun s H C cl fp => (pe_op op_add (pv 4) (pv 6)))) pa_nil)))))
      (pss_one (ps_ret (pv 3)))))), ?_⟩
    simp only [L2.start, List.map_cons, List.map_nil, List.length_cons, List.length_nil, List.replicate, List.cons_append, List.nil_append, List.append_nil, List.getElem?_cons_zero, List.getElem?_cons_succ, List.set_cons_zero, List.set_cons_succ, wipe, tSeq, tIfS, tTest, tB, tChain, tRet, tRetN, tNext, tC, tVar, tDrop, tAsg, gName, tOp, tUn, rI0, rI, rU, tAnd, tOr, tNot, tAndV, tOrV, tNotV, tIf, tIfE, tIfV, tNil, tCons, tCB, tCall, tIsN, tNotN, t2I, tAug, ipI, tYes, tLRev, tLRng, rMax, rMin, iRng3, tRaiseX, tTry, tLst, tTup, tDNewK, tDGet, tDIn, tDNotIn, sDPut, tBM, rAppend, rExtend, rPop, rIxL, rIxT, rIn, rEq, rNe, rCat, iList, iTup, iRng1, iRng2, iEnum, iEnumS, iZip, tKGet, tKGet1, tKGet2, tDGet1, tDGet2, tBM0, tFld, sFld, tSl, tNoPart, tPart, rSlL, gSub, rSetL, rRep, tMake, gTup, gCons, gNil, cxOf_K, List.map_append, List.length_map, V.int.injEq, V.bl.injEq, V.str.injEq, V.ref.injEq, Option.some.injEq, List.cons.injEq, exists_eq_left', exists_eq_left, exists_eq_right, exists_and_left, and_assoc, and_true, true_and, Bool.false_eq_true, if_false, if_true, reduceIte, decide_eq_true_eq, exists_const, exists_eq, exists_eq', and_self, exists_prop]
    have lvb := levelsI_b side hs0 hs2 ns hn
    have lvl := levelsI_eqlen side ns
    unfold textSeenI at h
    refine ⟨a, ns, side, rfl, hS, hn, hs0, hs2, fun lv H1 hlv s1 hL => ?_⟩
    generalize levelsI side ns = lvs at lvb lvl hL h
    refine ⟨Nat.zero_le _, fun l hl => ?_⟩
    have s2 : Same H1 (upd H1 l (.lst [])) := Same.add hl
    have nlv : lv ≠ l := ne_of_none hL hl
    refine ⟨_, rfl, a, ns, rfl, (s1.trans s2).seq hS, by omega, fun lc H3 hlc s3 hC => ?_⟩
    have ec : ns.map clsV = (ns.map clsN).map nV := by rw [List.map_map]; rfl
    rw [ec] at hC
    have hcl : (ns.map clsN).length = ns.length := by rw [List.length_map]
    generalize ns.map clsN = cs at hC hcl h
    have hl3 : H3 l = some (.lst []) := s3 _ _ upd_same
    refine ⟨lc, cs, rfl, hC, by omega, fun D ys H2 nD sD hD pr => ?_⟩
    obtain ⟨as, rfl, hla, hat⟩ := pairs_of pr
    have hl2 : H2 l = some (.lst []) := sD _ _ hl3
    have nDl : D ≠ l := fun z => by rw [z, hl3] at nD; cases nD
    have PI_ := paras_in cs
    have PS_ := paras_sum cs
    generalize hps : parasM cs = ps at hla hat PI_ h PS_
    have hpl : as.length = (ps.map fun r => (V.int (r.1 : Nat), V.int (r.2 : Nat))).length := by rw [List.length_map]; exact hla
    have sT : Same H H2 := ((s1.trans s2).trans s3).trans sD
    have hL2 : H2 lv = some (.lst (lvs.map V.int)) := sD _ _ (s3 _ _ (s2 _ _ hL))
    have hl0 : H l = none := s1.free hl
    refine ⟨D, rfl, ⟨_, SqL.of hD⟩, for_pairs2 (K := K) (a := D) (as := as) (fun j σ H' => (∀ b o, b ≠ l → H2 b = some o → H' b = some o) ∧ Same H H' ∧ H' l = some (.lst (((ps.take j).flatMap (partSeen lvs)).map pV)) ∧ ∃ v4 v5 v6, σ = [some (.ref a), some (.int side), some (.ref lv), some (.ref l), v4, v5, v6])
      (ps.map fun r => (V.int (r.1 : Nat), V.int (r.2 : Nat))) hpl ⟨fun b o _ e => e, sT, hl2, none, none, none, rfl⟩ (fun j σ H' hj p => ⟨SqL.of (p.1 D _ nDl hD), fun k c r ec er => ?_⟩) ?_ ?_⟩
    · rw [List.getElem?_map] at er
      cases eq : ps[k]? with
      | none => rw [eq] at er; cases er
      | some q =>
        rw [eq] at er
        cases er
        have ht := hat k c q ec eq
        exact SqT.of (p.1 c _ (ne_of ht hl2 (by intro z; cases z)) ht)
    · rintro j r σ H' hr' ⟨kb, sm, hl', v4, v5, v6, rfl⟩
      rw [List.getElem?_map] at hr'
      cases eq : ps[j]? with
      | none => rw [eq] at hr'; cases hr'
      | some q =>
        rw [eq] at hr'
        cases hr'
        obtain ⟨i1, i2⟩ := PI_ q (List.mem_of_getElem? eq)
        rw [take_snoc eq, List.flatMap_append]
        have hL' := kb lv _ nlv hL2
        have hlen : ((ps.take j).flatMap (partSeen lvs)).length ≤ cs.length := Nat.le_trans (partsSeen_len _ _) (by rw [← PS_]; exact take_sum _ _)
        have hpl := partSeen_len lvs q
        have ecut : cutV (lvs.map V.int) (some ((q.1 : Nat) : Int)) (some ((q.2 : Nat) : Int)) = (cutL lvs q).map V.int := by
          rw [cut_range _ _ _ (by rw [List.length_map]; omega) (by rw [List.length_map]; omega)]
          unfold cutL
          rw [List.map_take, List.map_drop]
        have hcut : (cutL lvs q).length ≤ 100000 := by unfold cutL; rw [List.length_take, List.length_drop]; omega
        have hcb : ∀ x ∈ cutL lvs q, 0 ≤ x ∧ x ≤ 1000000 := fun x hx => by
          have := lvb x (List.mem_of_mem_drop (List.mem_of_mem_take hx))
          omega
        simp only [L2.start, List.map_cons, List.map_nil, List.length_cons, List.length_nil, List.replicate, List.cons_append, List.nil_append, List.append_nil, List.getElem?_cons_zero, List.getElem?_cons_succ, List.set_cons_zero, List.set_cons_succ, wipe, tSeq, tIfS, tTest, tB, tChain, tRet, tRetN, tNext, tC, tVar, tDrop, tAsg, gName, tOp, tUn, rI0, rI, rU, tAnd, tOr, tNot, tAndV, tOrV, tNotV, tIf, tIfE, tIfV, tNil, tCons, tCB, tCall, tIsN, tNotN, t2I, tAug, ipI, tYes, tLRev, tLRng, rMax, rMin, iRng3, tRaiseX, tTry, tLst, tTup, tDNewK, tDGet, tDIn, tDNotIn, sDPut, tBM, rAppend, rExtend, rPop, rIxL, rIxT, rIn, rEq, rNe, rCat, iList, iTup, iRng1, iRng2, iEnum, iEnumS, iZip, tKGet, tKGet1, tKGet2, tDGet1, tDGet2, tBM0, tFld, sFld, tSl, tNoPart, tPart, rSlL, gSub, rSetL, rRep, tMake, gTup, gCons, gNil, cxOf_K, List.map_append, List.length_map, V.int.injEq, V.bl.injEq, V.str.injEq, V.ref.injEq, Option.some.injEq, List.cons.injEq, exists_eq_left', exists_eq_left, exists_eq_right, exists_and_left, and_assoc, and_true, true_and, Bool.false_eq_true, if_false, if_true, reduceIte, decide_eq_true_eq, exists_const, exists_eq, exists_eq', and_self, exists_prop]
        refine ⟨.inl ⟨rfl, _, SqL.of hl'⟩, ?_⟩
        refine tlc_of (fun J H3 => ∃ a', J = Itl K a' ∧ H' a' = none ∧ Same H' H3 ∧ H3 a' = some (.lst ((seenM (cutL lvs q)).map pV))) (fun R hR => ?_) (fun J H3 hJ => ?_)
        · simp only [L2.start, List.map_cons, List.map_nil, List.length_cons, List.length_nil, List.replicate, List.cons_append, List.nil_append, List.append_nil, List.getElem?_cons_zero, List.getElem?_cons_succ, List.set_cons_zero, List.set_cons_succ, wipe, tSeq, tIfS, tTest, tB, tChain, tRet, tRetN, tNext, tC, tVar, tDrop, tAsg, gName, tOp, tUn, rI0, rI, rU, tAnd, tOr, tNot, tAndV, tOrV, tNotV, tIf, tIfE, tIfV, tNil, tCons, tCB, tCall, tIsN, tNotN, t2I, tAug, ipI, tYes, tLRev, tLRng, rMax, rMin, iRng3, tRaiseX, tTry, tLst, tTup, tDNewK, tDGet, tDIn, tDNotIn, sDPut, tBM, rAppend, rExtend, rPop, rIxL, rIxT, rIn, rEq, rNe, rCat, iList, iTup, iRng1, iRng2, iEnum, iEnumS, iZip, tKGet, tKGet1, tKGet2, tDGet1, tDGet2, tBM0, tFld, sFld, tSl, tNoPart, tPart, rSlL, gSub, rSetL, rRep, tMake, gTup, gCons, gNil, cxOf_K, List.map_append, List.length_map, V.int.injEq, V.bl.injEq, V.str.injEq, V.ref.injEq, Option.some.injEq, List.cons.injEq, exists_eq_left', exists_eq_left, exists_eq_right, exists_and_left, and_assoc, and_true, true_and, Bool.false_eq_true, if_false, if_true, reduceIte, decide_eq_true_eq, exists_const, exists_eq, exists_eq', and_self, exists_prop]
          refine ⟨_, SqL.of hL', fun p hp => ?_⟩
          rw [ecut]
          exact ⟨p, cutL lvs q, rfl, upd_same, hcut, hcb, fun D2 H3 n2 s2' e2 => ⟨D2, rfl, ⟨_, SqL.of e2⟩, hR _ H3 ⟨D2, rfl, (Same.add hp).free n2, (Same.add hp).trans s2', e2⟩⟩⟩
        obtain ⟨a', rfl, ha', s3', e3⟩ := hJ
        refine tlc_map (xs := (seenM (cutL lvs q)).map pV) (fun v => match v with | .int x => .int ((q.1 : Nat) + x) | v => v) (fun _ r => r) (runs_list (SqL.of e3)) (by rw [List.length_map, seenM_len, sizeLine_eq]; omega) (fun i x H4 hx s4 T hT => ?_) (fun D4 H4 hD4 s4 hD4' => ?_)
        · obtain ⟨x, rfl, hx⟩ := map_at hx
          simp only [L2.start, List.map_cons, List.map_nil, List.length_cons, List.length_nil, List.replicate, List.cons_append, List.nil_append, List.append_nil, List.getElem?_cons_zero, List.getElem?_cons_succ, List.set_cons_zero, List.set_cons_succ, wipe, tSeq, tIfS, tTest, tB, tChain, tRet, tRetN, tNext, tC, tVar, tDrop, tAsg, gName, tOp, tUn, rI0, rI, rU, tAnd, tOr, tNot, tAndV, tOrV, tNotV, tIf, tIfE, tIfV, tNil, tCons, tCB, tCall, tIsN, tNotN, t2I, tAug, ipI, tYes, tLRev, tLRng, rMax, rMin, iRng3, tRaiseX, tTry, tLst, tTup, tDNewK, tDGet, tDIn, tDNotIn, sDPut, tBM, rAppend, rExtend, rPop, rIxL, rIxT, rIn, rEq, rNe, rCat, iList, iTup, iRng1, iRng2, iEnum, iEnumS, iZip, tKGet, tKGet1, tKGet2, tDGet1, tDGet2, tBM0, tFld, sFld, tSl, tNoPart, tPart, rSlL, gSub, rSetL, rRep, tMake, gTup, gCons, gNil, cxOf_K, List.map_append, List.length_map, V.int.injEq, V.bl.injEq, V.str.injEq, V.ref.injEq, Option.some.injEq, List.cons.injEq, exists_eq_left', exists_eq_left, exists_eq_right, exists_and_left, and_assoc, and_true, true_and, Bool.false_eq_true, if_false, if_true, reduceIte, decide_eq_true_eq, exists_const, exists_eq, exists_eq', and_self, exists_prop]
          exact ⟨_, rfl, hT H4 fun _ _ e => e⟩
        · have sA : Same H' H4 := s3'.trans s4
          have nl4 : l ≠ D4 := fun z => by
            have := s3' _ _ hl'
            rw [z, hD4] at this
            cases this
          have eS : ((seenM (cutL lvs q)).map pV).map (fun v => match v with | .int x => .int ((q.1 : Nat) + x) | v => v) = (partSeen lvs q).map pV := by
            unfold partSeen
            rw [List.map_map, List.map_map]
            refine List.map_congr_left fun x _ => ?_
            show V.int _ = V.int _
            push_cast
            rfl
          rw [eS] at hD4'
          refine ⟨_, rfl, _, sA _ _ hl', _, hD4', by rw [List.length_map, List.length_map, sizeLine_eq]; omega, fun b o hb e => ?_, (sm.trans sA).updn hl0, ?_⟩
          · rw [upd_ne hb]
            exact sA _ _ (kb b o hb e)
          · rw [upd_same, List.flatMap_cons, List.flatMap_nil, List.append_nil]
    · rintro σ H' ⟨kb, sm, hl', v4, v5, v6, rfl⟩
      simp only [L2.start, List.map_cons, List.map_nil, List.length_cons, List.length_nil, List.replicate, List.cons_append, List.nil_append, List.append_nil, List.getElem?_cons_zero, List.getElem?_cons_succ, List.set_cons_zero, List.set_cons_succ, wipe, tSeq, tIfS, tTest, tB, tChain, tRet, tRetN, tNext, tC, tVar, tDrop, tAsg, gName, tOp, tUn, rI0, rI, rU, tAnd, tOr, tNot, tAndV, tOrV, tNotV, tIf, tIfE, tIfV, tNil, tCons, tCB, tCall, tIsN, tNotN, t2I, tAug, ipI, tYes, tLRev, tLRng, rMax, rMin, iRng3, tRaiseX, tTry, tLst, tTup, tDNewK, tDGet, tDIn, tDNotIn, sDPut, tBM, rAppend, rExtend, rPop, rIxL, rIxT, rIn, rEq, rNe, rCat, iList, iTup, iRng1, iRng2, iEnum, iEnumS, iZip, tKGet, tKGet1, tKGet2, tDGet1, tDGet2, tBM0, tFld, sFld, tSl, tNoPart, tPart, rSlL, gSub, rSetL, rRep, tMake, gTup, gCons, gNil, cxOf_K, List.map_append, List.length_map, V.int.injEq, V.bl.injEq, V.str.injEq, V.ref.injEq, Option.some.injEq, List.cons.injEq, exists_eq_left', exists_eq_left, exists_eq_right, exists_and_left, and_assoc, and_true, true_and, Bool.false_eq_true, if_false, if_true, reduceIte, decide_eq_true_eq, exists_const, exists_eq, exists_eq', and_self, exists_prop]
      rw [hla, List.take_length] at hl'
      exact h l H' hl0 sm hl'
end
section
variable {P : Program} {w : World} {K : PySem.W.Frag} {mg : Str → Option Value} {base : Heap} {ad : Ad}
noncomputable def ansOrder (side : Int) (ns : List Int) : List Int := if (0 ≤ side ∧ side ≤ 2) ∧ textOk ns = true then (ns.length : Int) :: ((textSeenI side ns).map fun (k : Nat) => (k : Int)) else [-8]
noncomputable def spOrder (K : PySem.W.Frag) : Sp := fun vs H Q _ => ∃ (a : Addr) (ns : List Int) (side : Int), vs = [.int side, .ref a] ∧ SqL K H a (ns.map V.int) ∧ ns.length ≤ 100000 ∧ ∀ D H', H' D = some (.lst ((ansOrder side ns).map V.int)) → Q (.ref D) H'
theorem sc_order : FnScope ["side", "text", "e"] ["side", "text"] (defScope s_order) := ⟨rfl, rfl, rfl, by decide +kernel, rfl, by decide +kernel, by decide +kernel⟩
theorem ok_order (G : Gs w K mg ad) {f : Addr} {fd : FuncData} (F : Fun K "order" "order" s_order f fd) : FnOk P w K mg base (CXE P w) 8 f fd ["side", "text"] (spOrder K) := by
  refine F.okE sc_order (fun vs H Q E h => ?_) (fun cdv A outer s H vs Q E hr h => ?_)
  · obtain ⟨a, ns, side, rfl, _⟩ := h
    rfl
  · obtain ⟨a, ns, side, rfl, hS, hn, h⟩ := h
    obtain ⟨m_Refusal, x_Refusal, _⟩ := G.x_Refusal
    have hB : Body (cxOf (CXE P w) P w K mg base ["side", "text", "e"] "order" (defScope s_order) f cdv A outer s H E) := body_cx
    refine ⟨_, (pss_cons (ps_try (j := 2) hB sc_order.nd (fun ps E => (pss_cons (ps_expr (pe_cE (ok_need_range G) (hr.mono (by decide)) (passes_tr hB) (pa_cons (pv 0) (pa_cons pe_int (pa_cons (pe_gi G.c_MOST_SIDE) pa_nil)))))
      (pss_one (ps_expr (pe_cE (ok_need_text G) (hr.mono (by decide)) (passes_tr hB) (pa_cons (pv 1) pa_nil)))))) rfl m_Refusal x_Refusal rfl rfl)
      (pss_one (ps_ret (pe_op op_cat (pe_lst (pa_cons (pe_callB (call_len_seqK (K := K) rfl) (by rfl) G.b_len PySem.boot_len (pa_cons (pv 1) pa_nil)) pa_nil)) (pe_c0 (ok_text_seen G) (hr.mono (by decide)) (pa_cons (pv 1) (pa_cons (pv 0) pa_nil))))))), ?_⟩
    simp only [L2.start, List.map_cons, List.map_nil, List.length_cons, List.length_nil, List.replicate, List.cons_append, List.nil_append, List.append_nil, List.getElem?_cons_zero, List.getElem?_cons_succ, List.set_cons_zero, List.set_cons_succ, wipe, tSeq, tIfS, tTest, tB, tChain, tRet, tRetN, tNext, tC, tVar, tDrop, tAsg, gName, tOp, tUn, rI0, rI, rU, tAnd, tOr, tNot, tAndV, tOrV, tNotV, tIf, tIfE, tIfV, tNil, tCons, tCB, tCall, tIsN, tNotN, t2I, tAug, ipI, tYes, tRaiseX, tTry, tLst, tTup, tDNewK, tDGet, tDIn, tDNotIn, sDPut, tBM, rAppend, rExtend, rPop, rIxL, rIxT, rIn, rEq, rNe, rCat, iList, iTup, iRng1, iRng2, iEnum, iEnumS, iZip, tKGet, tKGet1, tKGet2, tDGet1, tDGet2, tBM0, tFld, sFld, tSl, tNoPart, tPart, rSlL, gSub, rSetL, rRep, tMake, gTup, gCons, gNil, cxOf_K, List.map_append, List.length_map, V.int.injEq, V.bl.injEq, V.str.injEq, V.ref.injEq, Option.some.injEq, List.cons.injEq, exists_eq_left', exists_eq_left, exists_eq_right, exists_and_left, and_assoc, and_true, true_and, Bool.false_eq_true, if_false, if_true, reduceIte, decide_eq_true_eq, exists_const, exists_eq, exists_eq', and_self, exists_prop]
    have bad : ¬ ((0 ≤ side ∧ side ≤ 2) ∧ textOk ns = true) → ∀ H' l, H' l = none → Q (.ref l) (upd H' l (.lst [.int (-8)])) := fun k H' l hl => by
      refine h l _ ?_
      rw [upd_same]
      unfold ansOrder
      rw [if_neg k]
      rfl
    refine ⟨side, 0, 2, rfl, fun k1 => ?_, fun k1 => xret_of fun H' l sm hl => bad (fun z => k1 z.1) H' l hl⟩
    refine ⟨a, ns, rfl, hS, by omega, fun k2 H1 sm => ?_, fun k2 => xret_of fun H' l sm hl => bad (fun z => by rw [k2] at z; exact absurd z.2 (by decide)) H' l hl⟩
    refine ⟨_, .inl (sm.seq hS), by decide, fun p hp => ?_⟩
    refine ⟨a, ns, side, rfl, (sm.trans (Same.add hp)).seq hS, hn, k1.1, k1.2, fun D H2 hD s2 hD2 => ⟨_, rfl, _, s2 _ _ upd_same, _, hD2, ?_, fun l hl => h l _ ?_⟩⟩
    · have := textSeenI_len side ns
      simp only [List.length_cons, List.length_nil, List.length_map, sizeLine_eq]
      omega
    · rw [upd_same]
      unfold ansOrder
      rw [if_pos ⟨k1, k2⟩, List.map_cons, List.length_map, List.map_map]
      rfl
theorem fin_order (G : Gs w K mg ad) {fa : Addr} (hmg : mg "order" = some (.ref fa)) :
    ∃ fd : FuncData, (∀ (s : Shared) (us : List Value), us.length = (["side", "text"] : List Str).length → BindsTo s fd ⟨us, []⟩ ((["side", "text"] : List Str).zip us)) ∧ ∀ base : Heap, FnOk P w K mg base (CXE P w) 8 fa fd ["side", "text"] (spOrder K) := by
  obtain ⟨f, fd, hm, hk, hb, F⟩ := G.f_order
  rw [hmg] at hm
  cases hm
  exact ⟨fd, fun s us hl => .of_eq (hb us hl), fun base => ok_order G F⟩
end
section
open Sh32 (Class)
noncomputable def lkF (k : Nat) (f : Class) (r : Class × Nat × Nat) : Class := if r.2.1 ≤ k ∧ k ≤ r.2.2 then r.1 else f
noncomputable def look (t : List (Class × Nat × Nat)) (i : Class) (k : Nat) : Class := t.foldl (lkF k) i
theorem look_const {p k : Nat} (hpk : p ≤ k) : ∀ (t : List (Class × Nat × Nat)) (i : Class), (∀ r ∈ t, ¬ (p < r.2.1 ∧ r.2.1 ≤ k) ∧ ¬ (p < r.2.2 + 1 ∧ r.2.2 + 1 ≤ k)) → look t i k = look t i p
  | [], i, _ => rfl
  | r :: t, i, h => by
    have e : lkF k i r = lkF p i r := by
      obtain ⟨h1, h2⟩ := h r List.mem_cons_self
      unfold lkF
      by_cases q : r.2.1 ≤ k ∧ k ≤ r.2.2
      · rw [if_pos q, if_pos (by omega)]
      · rw [if_neg q, if_neg (by omega)]
    show look t (lkF k i r) k = look t (lkF p i r) p
    rw [e]
    exact look_const hpk t _ fun r hr => h r (List.mem_cons_of_mem _ hr)
noncomputable def ptsOf (t : List (Class × Nat × Nat)) : List Nat := 0 :: t.flatMap fun r => [r.2.1, r.2.2 + 1]
theorem below (k : Nat) : ∀ l : List Nat, (∃ q ∈ l, q ≤ k) → ∃ p ∈ l, p ≤ k ∧ ∀ q ∈ l, q ≤ k → q ≤ p
  | [], ⟨_, h, _⟩ => nomatch h
  | a :: l, h => by
    by_cases hl : ∃ q ∈ l, q ≤ k
    · obtain ⟨p, hp, hk, hm⟩ := below k l hl
      by_cases ha : a ≤ k ∧ p < a
      · exact ⟨a, List.mem_cons_self, ha.1, fun q hq hqk => by
          rcases List.mem_cons.mp hq with rfl | hq
          · omega
          · have := hm q hq hqk; omega⟩
      · exact ⟨p, List.mem_cons_of_mem _ hp, hk, fun q hq hqk => by
          rcases List.mem_cons.mp hq with rfl | hq
          · omega
          · exact hm q hq hqk⟩
    · obtain ⟨q, hq, hqk⟩ := h
      rcases List.mem_cons.mp hq with rfl | hq
      · exact ⟨q, List.mem_cons_self, hqk, fun q' hq' hk' => by
          rcases List.mem_cons.mp hq' with rfl | hq'
          · omega
          · exact absurd ⟨q', hq', hk'⟩ hl⟩
      · exact absurd ⟨q, hq, hqk⟩ hl
theorem look_all {t u : List (Class × Nat × Nat)} (h : (ptsOf (t ++ u)).all (fun p => decide (look t .O p = look u .O p)) = true) (k : Nat) : look t .O k = look u .O k := by
  obtain ⟨p, hp, hk, hm⟩ := below k (ptsOf (t ++ u)) ⟨0, List.mem_cons_self, Nat.zero_le _⟩
  have at_ : ∀ r ∈ t ++ u, ¬ (p < r.2.1 ∧ r.2.1 ≤ k) ∧ ¬ (p < r.2.2 + 1 ∧ r.2.2 + 1 ≤ k) := fun r hr => by
    have m1 := hm r.2.1 (List.mem_cons_of_mem _ (List.mem_flatMap.mpr ⟨r, hr, List.mem_cons_self⟩))
    have m2 := hm (r.2.2 + 1) (List.mem_cons_of_mem _ (List.mem_flatMap.mpr ⟨r, hr, List.mem_cons_of_mem _ List.mem_cons_self⟩))
    omega
  rw [look_const hk t .O fun r hr => at_ r (List.mem_append_left _ hr), look_const hk u .O fun r hr => at_ r (List.mem_append_right _ hr)]
  exact of_decide_eq_true (List.all_eq_true.mp h p hp)
noncomputable def blk (c : Class) (l : List (Nat × Nat)) : List (Class × Nat × Nat) := l.map fun x => (c, x.1, x.2)
theorem look_blk (c : Class) (k : Nat) : ∀ (l : List (Nat × Nat)) (i : Class), look (blk c l) i k = if Sh32.inRows k l = true then c else i
  | [], i => rfl
  | x :: l, i => by
    show look (blk c l) (lkF k i (c, x.1, x.2)) k = _
    rw [look_blk c k l]
    unfold lkF Sh32.inRows Sh32.between
    simp only [List.any_cons, Bool.or_eq_true, Bool.and_eq_true, decide_eq_true_eq]
    by_cases h1 : x.1 ≤ k ∧ k ≤ x.2
    · simp [h1]
    · by_cases h2 : (l.any fun x => decide (x.1 ≤ k) && decide (k ≤ x.2)) = true
      · simp [h2]
      · simp [h1, h2]
theorem look_app (t u : List (Class × Nat × Nat)) (i : Class) (k : Nat) : look (t ++ u) i k = look u (look t i k) k := List.foldl_append ..
noncomputable def tabS : List (Class × Nat × Nat) := blk .L [(65, 90), (97, 122), (170, 170), (181, 181), (186, 186), (192, 687), (880, 1423), (2304, 8191), (11264, 55295), (63744, 64255), (65536, 1114111)] ++ (blk .O [(215, 215), (247, 247), (12288, 12292)] ++ (blk .R [(1424, 1535), (1984, 2303), (64285, 64335), (67584, 69631)] ++ (blk .A [(1536, 1983), (64336, 65023), (65136, 65278)] ++
  (blk .N [(48, 57), (1632, 1641), (1776, 1785)] ++ (blk .M [(768, 879), (1425, 1469), (1611, 1631), (8400, 8447)] ++ (blk .B [(10, 10)] ++ (blk .PI [(8297, 8297)] ++ (blk .FI [(8296, 8296)] ++ (blk .RI [(8295, 8295)] ++ blk .LI [(8294, 8294)])))))))))
theorem one_row (k a : Nat) : (Sh32.inRows k [(a, a)] = true) = (k = a) := by
  simp [Sh32.inRows, Sh32.between]
  omega
theorem no_rows (k : Nat) : (Sh32.inRows k [(215, 215), (247, 247), (12288, 12292)] = true) ↔ ¬ (k ≠ 215 ∧ k ≠ 247 ∧ Sh32.between k 12288 12292 = false) := by
  simp [Sh32.inRows, Sh32.between]
  omega
theorem tab_spec (k : Nat) : look tabS .O k = Sh32.classOf k := by
  unfold tabS
  simp only [look_app, look_blk, one_row]
  unfold Sh32.classOf
  by_cases h1 : k = 8294
  · simp only [h1, if_true]
  by_cases h2 : k = 8295
  · simp only [h2, if_true]; first | done | rfl
  by_cases h3 : k = 8296
  · simp only [h3, if_true]; first | done | rfl
  by_cases h4 : k = 8297
  · simp only [h4, if_true]; first | done | rfl
  by_cases h5 : k = 10
  · simp only [h5, if_true]; first | done | rfl
  simp only [h1, h2, h3, h4, h5, if_false]
  split
  · rfl
  split
  · rfl
  split
  · rfl
  split
  · rfl
  by_cases h6 : Sh32.inRows k [(215, 215), (247, 247), (12288, 12292)] = true
  · rw [if_pos h6, if_neg fun z => (no_rows k).mp h6 z.2]
  · have h7 := Decidable.of_not_not fun z => h6 ((no_rows k).mpr z)
    rw [if_neg h6]
    by_cases h8 : Sh32.inRows k [(65, 90), (97, 122), (170, 170), (181, 181), (186, 186), (192, 687), (880, 1423), (2304, 8191), (11264, 55295), (63744, 64255), (65536, 1114111)] = true
    · rw [if_pos h8, if_pos ⟨h8, h7⟩]
    · rw [if_neg h8, if_neg fun z => h8 z.1]
theorem rows_look (k : Nat) : ∀ (l : List (Class × Int × Int)) (i : Class), (∀ r ∈ l, 0 ≤ r.2.1 ∧ 0 ≤ r.2.2) → l.foldl (clsS (k : Int)) i = look (l.map fun r => (r.1, r.2.1.toNat, r.2.2.toNat)) i k
  | [], i, _ => rfl
  | r :: l, i, h => by
    obtain ⟨h1, h2⟩ := h r List.mem_cons_self
    have e : clsS (k : Int) i r = lkF k i (r.1, r.2.1.toNat, r.2.2.toNat) := by
      unfold clsS lkF
      by_cases q : r.2.1 ≤ (k : Int) ∧ (k : Int) ≤ r.2.2
      · rw [if_pos q, if_pos (by show r.2.1.toNat ≤ k ∧ k ≤ r.2.2.toNat; omega)]
      · rw [if_neg q, if_neg (by show ¬ (r.2.1.toNat ≤ k ∧ k ≤ r.2.2.toNat); omega)]
    show l.foldl (clsS (k : Int)) (clsS (k : Int) i r) = look _ (lkF k i (r.1, r.2.1.toNat, r.2.2.toNat)) k
    rw [e]
    exact rows_look k l _ fun r hr => h r (List.mem_cons_of_mem _ hr)
theorem cls_all (k : Nat) : clsN (k : Int) = Sh32.classOf k := by
  unfold clsN
  rw [rows_look k rowsL .O (by decide), ← tab_spec k]
  exact look_all (by decide +kernel) k
end
section
noncomputable def up (N : List Nat) : List Int := N.map fun (k : Nat) => (k : Int)
theorem up_of : ∀ {ns : List Int}, (∀ n ∈ ns, 0 ≤ n) → ∃ N : List Nat, ns = up N
  | [], _ => ⟨[], rfl⟩
  | n :: ns, h => by
    obtain ⟨N, e⟩ := up_of fun x hx => h x (List.mem_cons_of_mem _ hx)
    refine ⟨n.toNat :: N, ?_⟩
    have h0 : 0 ≤ n := h n List.mem_cons_self
    show n :: ns = ((n.toNat : Nat) : Int) :: up N
    rw [← e, Int.toNat_of_nonneg h0]
theorem nats_up (N : List Nat) : Sh32Neutral.nats (up N) = N := by
  unfold Sh32Neutral.nats up
  rw [List.map_map]
  have : ((fun (z : Int) => z.toNat) ∘ fun (k : Nat) => (k : Int)) = id := by funext k; rfl
  rw [this, List.map_id]
theorem up_at (N : List Nat) (j : Nat) : (up N)[j]? = (N[j]?).map fun (k : Nat) => (k : Int) := List.getElem?_map ..
theorem up_len (N : List Nat) : (up N).length = N.length := List.length_map ..
theorem cp_eq (k : Nat) : isCP (k : Int) = Sh32.isCode k := by
  unfold isCP Sh32.isCode Sh32.between
  by_cases h : 55296 ≤ k ∧ k ≤ 57343
  · rw [if_pos (by omega)]
    simp [h.1, h.2]
  · rw [if_neg (by omega)]
    rw [Bool.eq_iff_iff]
    simp
    omega
theorem text_eq (N : List Nat) : textOk (up N) = Sh32.isText N := by
  unfold textOk Sh32.isText Sh32.LONG
  rw [up_len]
  unfold up
  rw [List.all_map]
  congr 1
  · rw [Bool.eq_iff_iff]
    simp
    omega
  · congr 1
    funext k
    exact cp_eq k
end
section
open Sh32 (Class)
noncomputable def mkS (b c : Class) : Class := if c ≠ .M then c else if around b = true then .O else b
noncomputable def marksR (b : Class) : List Class → List Class
  | [] => []
  | c :: r => mkS b c :: marksR (mkS b c) r
theorem marks_rec (cs : List Class) : ∀ (acc : List Class) (b : Class), (cs.foldl stM (acc, b)).1 = acc ++ marksR b cs := by
  induction cs with
  | nil => intro acc b; simp [marksR]
  | cons c r ih =>
    intro acc b
    rw [List.foldl_cons]
    have e : stM (acc, b) c = (acc ++ [mkS b c], mkS b c) := rfl
    rw [e, ih]
    simp [marksR]
noncomputable def dgS (l c : Class) : Class := if Sh32.strong c = true then c else l
noncomputable def digsR (l : Class) : List Class → List Class
  | [] => []
  | c :: r => (if c = .N then digM (dgS l c) else c) :: digsR (dgS l c) r
theorem digs_rec (cs : List Class) : ∀ (acc : List Class) (l : Class), (cs.foldl stD (acc, l)).1 = acc ++ digsR l cs := by
  induction cs with
  | nil => intro acc l; simp [digsR]
  | cons c r ih =>
    intro acc l
    rw [List.foldl_cons]
    have e : stD (acc, l) c = (acc ++ [if c = .N then digM (dgS l c) else c], dgS l c) := rfl
    rw [e, ih]
    simp [digsR]
theorem around_iff (b : Class) : (around b = true) ↔ (Sh32.opens b = true ∨ b = .PI) := by cases b <;> decide
theorem strong_iff (d : Class) : (Sh32.strong d = true) ↔ (d = .L ∨ d = .R ∨ d = .A) := by cases d <;> decide
theorem settle_eq (cs : List Class) : ∀ prev strong : Class, Sh32.settle prev strong cs = (digsR strong (marksR prev cs)).map toR := by
  induction cs with
  | nil => intro p s; rfl
  | cons c r ih =>
    intro p s
    unfold Sh32.settle
    simp only [marksR, digsR, List.map_cons]
    have e1 : (if c = .M then (if Sh32.opens p = true ∨ p = .PI then .O else p) else c) = mkS p c := by
      unfold mkS
      by_cases k : c = .M
      · subst k
        by_cases k2 : around p = true
        · have k3 := (around_iff p).mp k2
          simp [k2, k3]
        · have k3 : ¬ (Sh32.opens p = true ∨ p = .PI) := fun z => k2 ((around_iff p).mpr z)
          simp only [if_true, if_neg k3, if_neg k2, ne_eq, not_true_eq_false, if_false]
      · rw [if_neg k, if_pos k]
    rw [e1]
    generalize mkS p c = d
    have e2 : (if d = .L ∨ d = .R ∨ d = .A then d else s) = dgS s d := by
      unfold dgS
      by_cases k : Sh32.strong d = true
      · rw [if_pos k, if_pos ((strong_iff d).mp k)]
      · rw [if_neg k, if_neg fun z => k ((strong_iff d).mpr z)]
    have e3 : (if d = .N then (if s = .A then .AN else if s = .L then .L else .N) else d) = (if d = .N then digM (dgS s d) else d) := by
      by_cases k : d = .N
      · rw [if_pos k, if_pos k, k]
        rfl
      · rw [if_neg k, if_neg k]
    rw [e2, e3, ih]
    rfl
theorem fill_block (eos own : Class) (c : Class) (hc : Sh32.neutral c = false) (r : List Class) : ∀ (w : Nat) (b : Class), Sh32.fill eos own b (List.replicate w .O ++ c :: r) = List.replicate w (if b = Sh32.sided c then b else own) ++ c :: Sh32.fill eos own (Sh32.sided c) r
  | 0, b => by
    show Sh32.fill eos own b (c :: r) = c :: Sh32.fill eos own (Sh32.sided c) r
    rw [Sh32.fill, if_neg (by rw [hc]; decide)]
  | w + 1, b => by
    rw [List.replicate_succ, List.cons_append, Sh32.fill, if_pos (by rfl)]
    have hf : (List.replicate w Class.O ++ c :: r).find? (fun d => !Sh32.neutral d) = some c := by
      induction w with
      | zero => simp [hc]
      | succ w ih =>
        rw [List.replicate_succ, List.cons_append, List.find?_cons]
        have e : (!Sh32.neutral .O) = false := rfl
        rw [e]
        exact ih
    rw [hf]
    dsimp only
    rw [fill_block eos own c hc r w b, List.replicate_succ, List.cons_append]
theorem fill_end (eos own : Class) : ∀ (w : Nat) (b : Class), Sh32.fill eos own b (List.replicate w .O) = List.replicate w (if b = eos then b else own)
  | 0, b => rfl
  | w + 1, b => by
    rw [List.replicate_succ, Sh32.fill, if_pos (by rfl)]
    have hf : (List.replicate w Class.O).find? (fun d => !Sh32.neutral d) = none := by
      rw [List.find?_eq_none]
      intro x hx
      rw [List.eq_of_mem_replicate hx]
      decide
    rw [hf]
    dsimp only
    rw [fill_end eos own w b, List.replicate_succ]
theorem fill_swap (eos own c : Class) (hc : Sh32.neutral c = true) (r : List Class) : ∀ (xs : List Class) (b : Class), Sh32.fill eos own b (xs ++ c :: r) = Sh32.fill eos own b (xs ++ .O :: r)
  | [], b => by
    show Sh32.fill eos own b (c :: r) = Sh32.fill eos own b (.O :: r)
    rw [Sh32.fill, Sh32.fill, if_pos hc, if_pos (by rfl)]
  | x :: xs, b => by
    rw [List.cons_append, List.cons_append, Sh32.fill, Sh32.fill]
    have hf : (xs ++ c :: r).find? (fun d => !Sh32.neutral d) = (xs ++ .O :: r).find? (fun d => !Sh32.neutral d) := by
      rw [List.find?_append, List.find?_append, List.find?_cons, List.find?_cons]
      have e : (!Sh32.neutral c) = false := by rw [hc]; rfl
      have e2 : (!Sh32.neutral .O) = false := rfl
      rw [e, e2]
    rw [hf, fill_swap eos own c hc r xs b, fill_swap eos own c hc r xs (Sh32.sided x)]
theorem neut_rec (side : Class) (hn : Sh32.neutral side = false) (hs : Sh32.sided side = side) (cs : List Class) : ∀ (acc : List Class) (b : Class) (w : Nat), ((cs ++ [side]).foldl (stN side) (acc, b, w)).1 = acc ++ Sh32.fill side side b (List.replicate w .O ++ cs) ++ [side] := by
  induction cs with
  | nil =>
    intro acc b w
    rw [List.nil_append, List.foldl_cons, List.foldl_nil, List.append_nil, fill_end]
    unfold stN
    rw [if_neg (by rw [hn]; decide)]
    dsimp only
    rw [hs]
    congr 3
    split
    · rename_i h; exact h.symm
    · rfl
  | cons c r ih =>
    intro acc b w
    rw [List.cons_append, List.foldl_cons]
    by_cases k : Sh32.neutral c = true
    · have e : stN side (acc, b, w) c = (acc, b, w + 1) := by unfold stN; rw [if_pos k]
      rw [e, ih, fill_swap side side c k r]
      have e2 : List.replicate (w + 1) Class.O ++ r = List.replicate w Class.O ++ Class.O :: r := by
        rw [List.replicate_succ', List.append_assoc]
        rfl
      rw [e2]
    · have e : stN side (acc, b, w) c = (acc ++ List.replicate w (if b = Sh32.sided c then Sh32.sided c else side) ++ [c], Sh32.sided c, 0) := by unfold stN; rw [if_neg k]
      rw [e, ih, fill_block side side c (by simpa using k)]
      have e3 : (if b = Sh32.sided c then Sh32.sided c else side) = (if b = Sh32.sided c then b else side) := by
        split
        · rename_i h; exact h.symm
        · rfl
      rw [e3]
      simp
theorem side_eq (l : Nat) : Sh32.sideClass l = sideN l := by
  unfold Sh32.sideClass sideN
  by_cases k : l % 2 = 0
  · rw [if_pos k, if_neg (by omega)]
  · rw [if_neg k, if_pos (by omega)]
theorem runM_eq (l : Nat) (cs : List Class) : runM l cs = Sh32.fill (Sh32.sideClass l) (Sh32.sideClass l) (Sh32.sideClass l) (Sh32.settle (Sh32.sideClass l) (Sh32.sideClass l) cs) := by
  rw [side_eq, settle_eq]
  unfold runM marksM digitsM neutM
  rw [marks_rec, List.nil_append, digs_rec, List.nil_append, neut_rec (sideN l) (by unfold sideN; split <;> rfl) (by unfold sideN; split <;> rfl)]
  rw [List.nil_append, List.dropLast_concat]
  rfl
noncomputable def valsOf (l : Nat) (cs : List Class) : List Nat := (Sh32.fill (Sh32.sideClass l) (Sh32.sideClass l) (Sh32.sideClass l) (Sh32.settle (Sh32.sideClass l) (Sh32.sideClass l) cs)).map (Sh32.levelOf l)
theorem runLv_eq (l : Nat) (cs : List Class) : runLv l cs = (valsOf l cs).map fun (k : Nat) => (k : Int) := by
  have hp := run_plain l cs
  unfold runLv valsOf
  rw [← runM_eq, List.map_map]
  refine List.map_congr_left fun c hc => ?_
  have := hp c hc
  show (l : Int) + highM l c = ((Sh32.levelOf l c : Nat) : Int)
  unfold highM Sh32.levelOf
  by_cases k : l % 2 = 1
  · have k0 : ¬ l % 2 = 0 := by omega
    simp only [if_pos k, if_neg k0]
    revert this
    cases c <;> simp [plain]
  · have k0 : l % 2 = 0 := by omega
    simp only [if_neg k, if_pos k0]
    revert this
    cases c <;> simp [plain]
end
section
open Sh32 (Class)
noncomputable def goP (b i : Nat) : List Class → List (Nat × Nat)
  | [] => if b < i then [(b, i)] else []
  | c :: r => if c = .B then (b, i + 1) :: goP (i + 1) (i + 1) r else goP b (i + 1) r
theorem goP_eq (cs : List Class) : ∀ (acc : List (Nat × Nat)) (b i : Nat), ((cs.zipIdx i).foldl stP (acc, b)).1 ++ (if ((cs.zipIdx i).foldl stP (acc, b)).2 < i + cs.length then [(((cs.zipIdx i).foldl stP (acc, b)).2, i + cs.length)] else []) = acc ++ goP b i cs := by
  induction cs with
  | nil => intro acc b i; rfl
  | cons c r ih =>
    intro acc b i
    rw [List.zipIdx_cons, List.foldl_cons, List.length_cons]
    have e : i + (r.length + 1) = (i + 1) + r.length := by omega
    rw [e]
    by_cases k : c = .B
    · have e1 : stP (acc, b) (c, i) = (acc ++ [(b, i + 1)], i + 1) := by unfold stP; rw [if_pos k]
      rw [e1, ih, goP, if_pos k]
      simp
    · have e1 : stP (acc, b) (c, i) = (acc, b) := by unfold stP; rw [if_neg k]
      rw [e1, ih, goP, if_neg k]
theorem parasM_go (cs : List Class) : parasM cs = goP 0 0 cs := by
  have := goP_eq cs [] 0 0
  rw [Nat.zero_add, List.nil_append] at this
  exact this
noncomputable def splitC (cur : List Class) : List Class → List (List Class)
  | [] => if cur = [] then [] else [cur]
  | c :: r => if c = .B then (cur ++ [c]) :: splitC [] r else splitC (cur ++ [c]) r
theorem part_go (cs0 : List Class) (cs : List Class) : ∀ (b i : Nat), b ≤ i → cs0.drop i = cs → i ≤ cs0.length → (goP b i cs).map (partOf cs0) = splitC ((cs0.drop b).take (i - b)) cs := by
  induction cs with
  | nil =>
    intro b i hb hd hi
    have hl : i = cs0.length := by
      have := congrArg List.length hd
      rw [List.length_drop] at this
      simp at this
      omega
    unfold goP splitC
    by_cases k : b < i
    · rw [if_pos k, if_neg]
      · rfl
      · intro z
        have := congrArg List.length z
        rw [List.length_take, List.length_drop] at this
        simp at this
        omega
    · rw [if_neg k, if_pos]
      · rfl
      · have : i - b = 0 := by omega
        rw [this]
        rfl
  | cons c r ih =>
    intro b i hb hd hi
    have hlt : i < cs0.length := by
      have := congrArg List.length hd
      rw [List.length_drop] at this
      simp at this
      omega
    have hc : cs0[i] = c := by
      have h1 := List.drop_eq_getElem_cons hlt
      rw [hd] at h1
      exact (List.cons.inj h1).1.symm
    have hd2 : cs0.drop (i + 1) = r := by
      have h1 := List.drop_eq_getElem_cons hlt
      rw [hd] at h1
      exact (List.cons.inj h1).2.symm
    have hs : (cs0.drop b).take (i + 1 - b) = (cs0.drop b).take (i - b) ++ [c] := by
      have e1 : i + 1 - b = (i - b) + 1 := by omega
      have e2 : (cs0.drop b)[i - b]? = some c := by
        rw [List.getElem?_drop]
        have : b + (i - b) = i := by omega
        rw [this, List.getElem?_eq_getElem hlt, hc]
      rw [e1, take_snoc e2]
    unfold goP splitC
    by_cases k : c = .B
    · rw [if_pos k, if_pos k, List.map_cons, ih (i + 1) (i + 1) (Nat.le_refl _) hd2 hlt]
      have e3 : i + 1 - (i + 1) = 0 := by omega
      rw [e3, List.take_zero]
      congr 1
    · rw [if_neg k, if_neg k, ih b (i + 1) (by omega) hd2 hlt, hs]
theorem split_no (xs : List Class) : ∀ (cur rest : List Class), (∀ x ∈ xs, x ≠ .B) → splitC cur (xs ++ rest) = splitC (cur ++ xs) rest := by
  induction xs with
  | nil => intro cur rest _; simp
  | cons x xs ih =>
    intro cur rest h
    rw [List.cons_append, splitC, if_neg (h x List.mem_cons_self), ih _ _ fun y hy => h y (List.mem_cons_of_mem _ hy)]
    simp
theorem cls_B (k : Nat) : Sh32.classOf k = .B ↔ k = 10 := by
  constructor
  · intro h
    unfold Sh32.classOf at h
    repeat' split at h
    all_goals first | assumption | cases h
  · rintro rfl
    rfl
theorem tw_imp {α : Type} {p : α → Bool} {x : α} : ∀ {l : List α}, x ∈ l.takeWhile p → p x = true
  | [], h => nomatch h
  | y :: l, h => by
    rw [List.takeWhile_cons] at h
    split at h
    · rename_i hy
      rcases List.mem_cons.mp h with rfl | h
      · exact hy
      · exact tw_imp h
    · cases h
theorem paras_split : ∀ (f : Nat) (t : List Nat), t.length < f → (Sh32.paras f t).map (fun p => p.map Sh32.classOf) = splitC [] (t.map Sh32.classOf)
  | 0, t, h => by omega
  | f + 1, t, h => by
    unfold Sh32.paras
    by_cases k : t = []
    · rw [if_pos k, k]; rfl
    rw [if_neg k]
    dsimp only
    obtain ⟨a, rest, e, ha, hr⟩ : ∃ a rest, t = a ++ rest ∧ (∀ x ∈ a, x ≠ 10) ∧ (rest = [] ∨ ∃ q, rest = 10 :: q) ∧ t.takeWhile (fun c => c != 10) = a := by
      refine ⟨t.takeWhile (fun c => c != 10), t.dropWhile (fun c => c != 10), (List.takeWhile_append_dropWhile).symm, fun x hx => ?_, ?_, rfl⟩
      · have := tw_imp hx
        simpa using this
      · cases e : t.dropWhile (fun c => c != 10) with
        | nil => exact .inl rfl
        | cons y q =>
          have h1 := List.head?_dropWhile_not (fun c => c != 10) t
          rw [e] at h1
          simp at h1
          exact .inr ⟨q, by rw [h1]⟩
    obtain ⟨hr, ht⟩ := hr
    rw [ht]
    have haB : ∀ x ∈ a.map Sh32.classOf, x ≠ Class.B := fun x hx => by
      obtain ⟨y, hy, rfl⟩ := List.mem_map.mp hx
      exact fun z => ha y hy ((cls_B y).mp z)
    rcases hr with rfl | ⟨q, rfl⟩
    · rw [List.append_nil] at e
      subst e
      have en : min t.length (t.length + 1) = t.length := by omega
      rw [en, List.take_length, List.drop_length, List.map_cons]
      have e0 : Sh32.paras f [] = [] := by cases f <;> rfl
      rw [e0]
      have := split_no (t.map Sh32.classOf) [] [] haB
      rw [List.append_nil, List.nil_append] at this
      rw [this, splitC, if_neg (by simpa using k)]
      rfl
    · subst e
      have en : min (a ++ 10 :: q).length (a.length + 1) = a.length + 1 := by rw [List.length_append, List.length_cons]; omega
      rw [en]
      have e1 : (a ++ 10 :: q).take (a.length + 1) = a ++ [10] := by
        rw [List.take_append, List.take_of_length_le (by omega)]
        simp
      have e2 : (a ++ 10 :: q).drop (a.length + 1) = q := by
        rw [List.drop_append, List.drop_eq_nil_of_le (by omega)]
        simp
      rw [e1, e2, List.map_cons, paras_split f q (by rw [List.length_append, List.length_cons] at h; omega), List.map_append, List.map_append, List.map_cons, split_no _ _ _ haB, List.nil_append]
      show _ = (if Sh32.classOf 10 = .B then (List.map Sh32.classOf a ++ [Sh32.classOf 10]) :: splitC [] (List.map Sh32.classOf q) else splitC (List.map Sh32.classOf a ++ [Sh32.classOf 10]) (List.map Sh32.classOf q))
      rw [if_pos (by rfl)]
      rfl
theorem paras_form : ∀ (f : Nat) (t p : List Nat), p ∈ Sh32.paras f t → ∃ q, (∀ x ∈ q, x ≠ 10) ∧ (p = q ∨ p = q ++ [10])
  | 0, t, p, h => nomatch h
  | f + 1, t, p, h => by
    unfold Sh32.paras at h
    by_cases k : t = []
    · rw [if_pos k] at h; cases h
    rw [if_neg k] at h
    dsimp only at h
    rcases List.mem_cons.mp h with rfl | h
    · refine ⟨t.takeWhile (fun c => c != 10), fun x hx => by have := tw_imp hx; simpa using this, ?_⟩
      have et : t = t.takeWhile (fun c => c != 10) ++ t.dropWhile (fun c => c != 10) := (List.takeWhile_append_dropWhile).symm
      generalize t.takeWhile (fun c => c != 10) = a at et
      cases e : t.dropWhile (fun c => c != 10) with
      | nil =>
        rw [e, List.append_nil] at et
        subst et
        left
        exact List.take_of_length_le (by omega)
      | cons y q =>
        have h1 := List.head?_dropWhile_not (fun c => c != 10) t
        rw [e] at h1 et
        simp at h1
        subst h1
        right
        subst et
        have en : min (a ++ 10 :: q).length (a.length + 1) = a.length + 1 := by rw [List.length_append, List.length_cons]; omega
        rw [en, List.take_append, List.take_of_length_le (by omega)]
        simp
    · exact paras_form f _ p h
end
section
open Sh32 (Class)
noncomputable def encO (o : Option Class) : Option Int := o.map fun c => if c = .L then 0 else 1
noncomputable def finS (S : List (Int × Int)) (W : List Int) (i : Nat) (cs : List Class) (k : Int) : Option Int := ((cs.zipIdx i).foldl stS (S, W)).1.lookup k
theorem lku_app (k : Int) (T : List (Int × Int)) : ∀ S : List (Int × Int), (S ++ T).lookup k = match S.lookup k with | some v => some v | none => T.lookup k
  | [] => rfl
  | p :: S => by
    rw [List.cons_append, List.lookup_cons, List.lookup_cons]
    cases h : (k == p.1) with
    | true => rfl
    | false => exact lku_app k T S
theorem fin_cons (S : List (Int × Int)) (W : List Int) (i : Nat) (c : Class) (r : List Class) (k : Int) : finS S W i (c :: r) k = finS (stS (S, W) (c, i)).1 (stS (S, W) (c, i)).2 (i + 1) r k := by
  unfold finS
  rw [List.zipIdx_cons, List.foldl_cons]
theorem fin_stay (k v : Int) (cs : List Class) : ∀ (S : List (Int × Int)) (W : List Int) (i : Nat), S.lookup k = some v → finS S W i cs k = some v := by
  induction cs with
  | nil => intro S W i h; exact h
  | cons c r ih =>
    intro S W i h
    rw [fin_cons]
    refine ih _ _ _ ?_
    unfold stS
    dsimp only
    split
    · exact h
    · split
      · exact h
      · split
        · rw [lku_app, h]
        · exact h
theorem last_in {W : List Int} (h : W ≠ []) : lastI W ∈ W := by
  unfold lastI
  rw [List.getLastD_eq_getLast?, List.getLast?_eq_some_getLast h]
  exact List.getLast_mem h
theorem drop_ne {W : List Int} (h : 1 < W.length) : W.dropLast ≠ [] := fun z => by
  have := congrArg List.length z
  rw [List.length_dropLast] at this
  simp at this
  omega
theorem look_one {k a v : Int} (h : k ≠ a) : ([(a, v)] : List (Int × Int)).lookup k = none := by
  rw [List.lookup_cons]
  have : (k == a) = false := by simpa using h
  simp only [this]
  rfl
theorem look_me (a v : Int) : ([(a, v)] : List (Int × Int)).lookup a = some v := by
  rw [List.lookup_cons]
  simp
theorem fin_gone (k : Int) (cs : List Class) : ∀ (S : List (Int × Int)) (W : List Int) (i : Nat), W ≠ [] → k ∉ W → k < (i : Int) → S.lookup k = none → finS S W i cs k = none := by
  induction cs with
  | nil => intro S W i _ _ _ h; exact h
  | cons c r ih =>
    intro S W i h1 h2 h3 h
    rw [fin_cons]
    have h4 : k < ((i + 1 : Nat) : Int) := by omega
    unfold stS
    dsimp only
    split
    · refine ih _ _ _ (by simp) ?_ h4 h
      intro z
      rcases List.mem_append.mp z with z | z
      · exact h2 z
      · have := List.mem_singleton.mp z; omega
    · split
      · rename_i q
        exact ih _ _ _ (drop_ne q.2) (fun z => h2 (List.dropLast_subset _ z)) h4 h
      · split
        · refine ih _ _ _ h1 h2 h4 ?_
          rw [lku_app, h]
          exact look_one fun z => h2 (z ▸ last_in h1)
        · exact ih _ _ _ h1 h2 h4 h
theorem last_snoc (A : List Int) (x : Int) : lastI (A ++ [x]) = x := by
  unfold lastI
  simp
theorem strong_no {c : Class} (h : Sh32.strong c = true) : Sh32.opens c = false ∧ c ≠ .PI ∧ (c = .L ∨ c = .R ∨ c = .A) := by
  cases c <;> first | exact ⟨rfl, by decide, by decide⟩ | cases h
theorem fin_here (k : Int) (cs : List Class) : ∀ (S : List (Int × Int)) (A Bs : List Int) (i : Nat), (A ++ k :: Bs).Nodup → (∀ x ∈ A ++ k :: Bs, x < (i : Int)) → S.lookup k = none → finS S (A ++ k :: Bs) i cs k = encO (if A = [] then Sh32.strongPara Bs.length cs else Sh32.firstStrong Bs.length cs) := by
  induction cs with
  | nil =>
    intro S A Bs i _ _ h
    have : finS S (A ++ k :: Bs) i [] k = S.lookup k := rfl
    rw [this, h]
    split <;> rfl
  | cons c r ih =>
    intro S A Bs i h1 h2 h
    rw [fin_cons]
    have h3 : ∀ x ∈ A ++ k :: Bs, x < ((i + 1 : Nat) : Int) := fun x hx => by have := h2 x hx; omega
    unfold Sh32.strongPara Sh32.firstStrong
    by_cases k1 : Sh32.opens c = true
    · have e : stS (S, A ++ k :: Bs) (c, i) = (S, A ++ k :: (Bs ++ [(i : Int)])) := by
        unfold stS
        rw [if_pos k1]
        simp
      rw [e, if_pos k1, if_pos k1]
      have := ih S A (Bs ++ [(i : Int)]) (i + 1) (by
        have : A ++ k :: (Bs ++ [(i : Int)]) = (A ++ k :: Bs) ++ [(i : Int)] := by simp
        rw [this, List.nodup_append]
        refine ⟨h1, by simp, fun a ha b hb => ?_⟩
        have := h2 a ha
        have := List.mem_singleton.mp hb
        omega) (by
        intro x hx
        have e2 : A ++ k :: (Bs ++ [(i : Int)]) = (A ++ k :: Bs) ++ [(i : Int)] := by simp
        rw [e2] at hx
        rcases List.mem_append.mp hx with q | q
        · exact h3 x q
        · have := List.mem_singleton.mp q; omega) h
      rw [List.length_append] at this
      exact this
    rw [if_neg k1, if_neg k1]
    by_cases k2 : c = .PI
    · subst k2
      rw [if_pos rfl, if_pos rfl]
      by_cases k3 : 1 < (A ++ k :: Bs).length
      · have e : stS (S, A ++ k :: Bs) (.PI, i) = (S, (A ++ k :: Bs).dropLast) := by
          unfold stS
          rw [if_neg k1, if_pos ⟨rfl, k3⟩]
        rw [e]
        rcases List.eq_nil_or_concat Bs with rfl | ⟨l, x, rfl⟩
        · have hA : A ≠ [] := by rintro rfl; simp at k3
          rw [List.dropLast_concat, if_neg hA]
          show finS S A (i + 1) r k = encO (if 0 = 0 then none else _)
          rw [if_pos rfl]
          refine fin_gone k r S A (i + 1) hA (fun z => ?_) (by have := h2 k (by simp); omega) h
          rw [List.nodup_append] at h1
          exact h1.2.2 k z k (by simp) rfl
        · have e2 : (A ++ k :: (l.concat x)).dropLast = A ++ k :: l := by
            rw [List.concat_eq_append]
            have : A ++ k :: (l ++ [x]) = (A ++ k :: l) ++ [x] := by simp
            rw [this, List.dropLast_concat]
          have e3 : A ++ k :: (l.concat x) = (A ++ k :: l) ++ [x] := by
            rw [List.concat_eq_append]
            simp
          rw [e2]
          rw [e3] at h1 h3
          rw [ih S A l (i + 1) (List.nodup_append.mp h1).1 (fun y hy => h3 y (List.mem_append_left _ hy)) h]
          have e4 : (l.concat x).length = l.length + 1 := by simp
          rw [e4, if_neg (by omega : ¬ l.length + 1 = 0), Nat.add_sub_cancel]
      · have hA : A = [] ∧ Bs = [] := by
          simp only [List.length_append, List.length_cons] at k3
          exact ⟨List.length_eq_zero_iff.mp (by omega), List.length_eq_zero_iff.mp (by omega)⟩
        obtain ⟨rfl, rfl⟩ := hA
        have e : stS (S, [] ++ [k]) (.PI, i) = (S, [] ++ [k]) := by
          unfold stS
          rw [if_neg k1, if_neg fun z => k3 z.2, if_neg fun z => nomatch z.1]
        rw [e, ih S [] [] (i + 1) h1 h3 h, if_pos rfl, if_pos rfl]
        rfl
    rw [if_neg k2, if_neg k2]
    by_cases k4 : Sh32.strong c = true
    · have k5 := (strong_no k4).2.2
      rcases List.eq_nil_or_concat Bs with rfl | ⟨l, x, rfl⟩
      · have e : stS (S, A ++ [k]) (c, i) = (S ++ [(k, if c = .L then 0 else 1)], A ++ [k]) := by
          unfold stS
          rw [if_neg k1, if_neg fun z => k2 z.1]
          dsimp only
          rw [last_snoc, if_pos ⟨k4, h⟩]
        have e5 : ([] : List Int).length = 0 ∧ (c = .L ∨ c = .R ∨ c = .A) := ⟨rfl, k5⟩
        rw [e, if_pos e5, if_pos e5]
        dsimp only
        rw [fin_stay k (if c = .L then 0 else 1) r _ _ _ (by rw [lku_app, h]; exact look_me _ _)]
        rw [ite_self]
        rfl
      · have e3 : A ++ k :: (l.concat x) = (A ++ k :: l) ++ [x] := by
          rw [List.concat_eq_append]
          simp
        have hx : k ≠ x := by
          rw [e3] at h1
          exact (List.nodup_append.mp h1).2.2 k (by simp) x (by simp)
        have e4 : ¬ (l.concat x).length = 0 := by simp
        rw [if_neg (fun z : _ ∧ (c = .L ∨ c = .R ∨ c = .A) => e4 z.1), if_neg (fun z : _ ∧ (c = .L ∨ c = .R ∨ c = .A) => e4 z.1)]
        by_cases k6 : S.lookup (lastI (A ++ k :: l.concat x)) = none
        · have e : stS (S, A ++ k :: l.concat x) (c, i) = (S ++ [(x, if c = .L then 0 else 1)], A ++ k :: l.concat x) := by
            unfold stS
            rw [if_neg k1, if_neg fun z => k2 z.1]
            dsimp only
            rw [if_pos ⟨k4, k6⟩, e3, last_snoc]
          rw [e]
          exact ih _ _ _ _ h1 h3 (by rw [lku_app, h]; exact look_one hx)
        · have e : stS (S, A ++ k :: l.concat x) (c, i) = (S, A ++ k :: l.concat x) := by
            unfold stS
            rw [if_neg k1, if_neg fun z => k2 z.1]
            dsimp only
            rw [if_neg fun z => k6 z.2]
          rw [e]
          exact ih _ _ _ _ h1 h3 h
    · have k5 : ¬ (c = .L ∨ c = .R ∨ c = .A) := by
        intro z
        rcases z with rfl | rfl | rfl <;> exact k4 rfl
      have e : stS (S, A ++ k :: Bs) (c, i) = (S, A ++ k :: Bs) := by
        unfold stS
        rw [if_neg k1, if_neg fun z => k2 z.1, if_neg fun z => k4 z.1]
      rw [e, if_neg fun z : _ ∧ (c = .L ∨ c = .R ∨ c = .A) => k5 z.2, if_neg fun z : _ ∧ (c = .L ∨ c = .R ∨ c = .A) => k5 z.2]
      exact ih _ _ _ _ h1 h3 h
structure SInv (S : List (Int × Int)) (W : List Int) (i : Nat) : Prop where
  ne : W ≠ []
  nd : W.Nodup
  lt : ∀ x ∈ W, x < (i : Int)
  ks : ∀ p ∈ S, p.1 < (i : Int)
theorem SInv.step {S : List (Int × Int)} {W : List Int} {i : Nat} (I : SInv S W i) (c : Class) : SInv (stS (S, W) (c, i)).1 (stS (S, W) (c, i)).2 (i + 1) := by
  obtain ⟨h1, h2, h3, h4⟩ := I
  have h3' : ∀ x ∈ W, x < ((i + 1 : Nat) : Int) := fun x hx => by have := h3 x hx; omega
  have h4' : ∀ p ∈ S, p.1 < ((i + 1 : Nat) : Int) := fun x hx => by have := h4 x hx; omega
  unfold stS
  dsimp only
  split
  · refine ⟨by simp, ?_, ?_, h4'⟩
    · dsimp only
      rw [List.nodup_append]
      refine ⟨h2, by simp, fun a ha b hb => ?_⟩
      have := h3 a ha
      have := List.mem_singleton.mp hb
      omega
    · intro x hx
      rcases List.mem_append.mp hx with q | q
      · exact h3' x q
      · have := List.mem_singleton.mp q; omega
  · split
    · rename_i q
      refine ⟨drop_ne q.2, ?_, fun x hx => h3' x (List.dropLast_subset _ hx), h4'⟩
      exact List.Nodup.sublist (List.dropLast_sublist _) h2
    · split
      · refine ⟨h1, h2, h3', fun p hp => ?_⟩
        rcases List.mem_append.mp hp with q | q
        · exact h4' p q
        · rw [List.mem_singleton.mp q]
          exact h3' _ (last_in h1)
      · exact ⟨h1, h2, h3', h4'⟩
theorem SInv.all (cs : List Class) : ∀ (S : List (Int × Int)) (W : List Int) (i : Nat), SInv S W i → SInv ((cs.zipIdx i).foldl stS (S, W)).1 ((cs.zipIdx i).foldl stS (S, W)).2 (i + cs.length) := by
  induction cs with
  | nil => intro S W i h; exact h
  | cons c r ih =>
    intro S W i h
    rw [List.zipIdx_cons, List.foldl_cons, List.length_cons]
    have := ih _ _ _ (h.step c)
    have e : i + (r.length + 1) = i + 1 + r.length := by omega
    rw [e]
    exact this
theorem look_none {S : List (Int × Int)} {k : Int} (h : ∀ p ∈ S, p.1 ≠ k) : S.lookup k = none := by
  induction S with
  | nil => rfl
  | cons p S ih =>
    rw [List.lookup_cons]
    have : (k == p.1) = false := by have := h p List.mem_cons_self; simpa using fun z => this z.symm
    rw [this]
    exact ih fun q hq => h q (List.mem_cons_of_mem _ hq)
theorem sides_whole (cs : List Class) : (sidesM cs).lookup (-1) = encO (Sh32.strongPara 0 cs) := by
  have := fin_here (-1) cs [] [] [] 0 (by simp) (by simp) rfl
  rw [if_pos rfl] at this
  exact this
theorem sides_at (xs : List Class) (c : Class) (r : List Class) (hc : Sh32.opens c = true) : (sidesM (xs ++ c :: r)).lookup ((xs.length : Nat) : Int) = encO (Sh32.firstStrong 0 r) := by
  unfold sidesM sidesSt
  rw [List.zipIdx_append, List.foldl_append]
  have I := SInv.all xs [] [-1] 0 ⟨by simp, by simp, by simp, by simp⟩
  rw [Nat.zero_add] at I ⊢
  generalize (xs.zipIdx.foldl stS ([], [-1])) = st at I
  obtain ⟨S, W⟩ := st
  dsimp only at I
  rw [List.zipIdx_cons, List.foldl_cons]
  have e : stS (S, W) (c, xs.length) = (S, W ++ [((xs.length : Nat) : Int)]) := by
    unfold stS
    rw [if_pos hc]
  rw [e]
  have := fin_here ((xs.length : Nat) : Int) r S W [] (xs.length + 1) (by
    rw [List.nodup_append]
    refine ⟨I.nd, by simp, fun a ha b hb => ?_⟩
    have := I.lt a ha
    have := List.mem_singleton.mp hb
    omega) (by
    intro x hx
    rcases List.mem_append.mp hx with q | q
    · have := I.lt x q; omega
    · have := List.mem_singleton.mp q; omega) (look_none fun p hp z => by have := I.ks p hp; omega)
  rw [if_neg I.ne] at this
  exact this
theorem strong_flt (l : List Class) : ∀ n, Sh32.firstStrong n (l.filter fun c => c != .B) = Sh32.firstStrong n l := by
  induction l with
  | nil => intro n; rfl
  | cons c r ih =>
    intro n
    by_cases h : c = .B
    · subst h
      show Sh32.firstStrong n (r.filter fun c => c != .B) = Sh32.firstStrong n (.B :: r)
      rw [ih]
      conv => rhs; unfold Sh32.firstStrong
      rw [if_neg (by decide), if_neg (by decide), if_neg (by simp)]
    · have e : (c :: r).filter (fun c => c != .B) = c :: r.filter fun c => c != .B := by
        rw [List.filter_cons, if_pos (by simpa using h)]
      rw [e]
      unfold Sh32.firstStrong
      simp only [ih]
theorem sideOf_eq (l : List Class) : ((Sh32.sideOf l : Nat) : Int) = (encO (Sh32.firstStrong 0 l)).getD 0 := by
  unfold Sh32.sideOf
  rw [strong_flt]
  cases h : Sh32.firstStrong 0 l with
  | none => rfl
  | some c => cases c <;> rfl
theorem paraSide_eq (l : List Class) : ((Sh32.paraSide l : Nat) : Int) = (encO (Sh32.strongPara 0 l)).getD 0 := by
  unfold Sh32.paraSide
  cases h : Sh32.strongPara 0 l with
  | none => rfl
  | some c => cases c <;> rfl
theorem side0_eq (cs : List Class) (side : Nat) : side0 (sidesM cs) (side : Int) = ((if side = 2 then Sh32.paraSide cs else side : Nat) : Int) := by
  unfold side0
  by_cases h : side = 2
  · subst h
    rw [if_neg (by simp), if_pos rfl, sides_whole, paraSide_eq]
  · rw [if_pos (by omega), if_neg h]
end
section
open Sh32 (Class)
noncomputable abbrev rAt (rs : List (Nat × List Nat)) (k : Nat) : Nat × List Nat := rs.getD k (0, [])
structure RRel (s : RSt) (a : Sh32.At) : Prop where
  st : a.stack = s.2.1.reverse.map fun j => ((rAt s.1 j).1, j)
  op : a.opened = s.2.2.reverse
  rn : a.runs = s.1.length
theorem above1 (l : Nat) : aboveI (l : Int) 1 = ((Sh32.nextOdd l : Nat) : Int) := by
  unfold aboveI Sh32.nextOdd
  split <;> omega
theorem above0 (l : Nat) : aboveI (l : Int) 0 = ((Sh32.nextEven l : Nat) : Int) := by
  unfold aboveI Sh32.nextEven
  split <;> omega
theorem set_at (rs : List (Nat × List Nat)) (u i k : Nat) (hu : u < rs.length) : rAt (rs.set u ((rAt rs u).1, (rAt rs u).2 ++ [i])) k = ((rAt rs k).1, (rAt rs k).2 ++ if k = u then [i] else []) := by
  unfold rAt
  rw [List.getD_eq_getElem?_getD, List.getElem?_set]
  by_cases h : k = u
  · subst h
    rw [if_pos rfl, if_pos hu, if_pos rfl]
    rfl
  · rw [if_neg fun z => h z.symm, if_neg h, List.append_nil, ← List.getD_eq_getElem?_getD]
theorem app_at (rs : List (Nat × List Nat)) (lv k : Nat) (hk : k < rs.length) : rAt (rs ++ [(lv, [])]) k = rAt rs k := by
  unfold rAt
  rw [List.getD_eq_getElem?_getD, List.getElem?_append_left hk, ← List.getD_eq_getElem?_getD]
theorem app_at2 (rs : List (Nat × List Nat)) (lv k : Nat) : (rAt (rs ++ [(lv, [])]) k).2 = (rAt rs k).2 := by
  by_cases hk : k < rs.length
  · rw [app_at rs lv k hk]
  · unfold rAt
    rw [List.getD_eq_getElem?_getD, List.getD_eq_getElem?_getD, List.getElem?_append_right (by omega), List.getElem?_eq_none (by omega : rs.length ≤ k)]
    cases h : k - rs.length with
    | zero => rfl
    | succ n => rfl
theorem emb_step (S : List (Int × Int)) {s : RSt} {a : Sh32.At} {n i : Nat} {c : Class} (r : List Class) (R : RRel s a) (I : RInv s n) (hB : c ≠ .B) (hS : c = .FI → (S.lookup (i : Int)).getD 0 = ((Sh32.sideOf r : Nat) : Int)) :
    ∃ (id : Nat) (a' : Sh32.At), Sh32.embed a (c :: r) = ((rAt s.1 id).1, id) :: Sh32.embed a' r ∧ RRel (stR S s (c, i)) a' ∧ id < s.1.length ∧
      (∀ k, (rAt (stR S s (c, i)).1 k).2 = (rAt s.1 k).2 ++ if k = id then [i] else []) ∧ (∀ k, k < s.1.length → (rAt (stR S s (c, i)).1 k).1 = (rAt s.1 k).1) ∧ s.1.length ≤ (stR S s (c, i)).1.length := by
  obtain ⟨rs, stk, wt⟩ := s
  obtain ⟨stk', wt', e1, e2, g1, g2, g3, g4, g5⟩ := I.pop c
  obtain ⟨A1, A2, A3⟩ := R
  dsimp only at A1 A2 A3
  -- the state when it has popped
  obtain ⟨b, hb1, hb2, hb3, hb4⟩ : ∃ b : Sh32.At, b.stack = stk'.reverse.map (fun j => ((rAt rs j).1, j)) ∧ b.opened = wt'.reverse ∧ b.runs = rs.length ∧ (Sh32.opens c = true → b = a) ∧ (Sh32.opens c = false → Sh32.embed a (c :: r) = b.top :: Sh32.embed b r) := by
    by_cases k : c = .PI
    · subst k
      rcases List.eq_nil_or_concat wt with rfl | ⟨l, x, rfl⟩
      · rw [if_neg fun z => z.2 rfl] at e1 e2
        subst e1 e2
        refine ⟨a, A1, A2, A3, fun z => rfl, fun _ => ?_⟩
        show (match a.opened with | true :: o => _ | false :: o => _ | [] => a.top :: Sh32.embed a r) = _
        rw [A2]
        rfl
      · rw [List.concat_eq_append] at e1 e2 A2
        have hne : l ++ [x] ≠ [] := by simp
        rw [if_pos ⟨rfl, hne⟩] at e1 e2
        rw [List.dropLast_concat] at e2
        rw [List.getLastD_concat] at e1
        rw [List.reverse_append] at A2
        have A2' : a.opened = x :: l.reverse := A2
        subst e2
        cases x with
        | true =>
          rw [if_pos rfl] at e1
          subst e1
          refine ⟨{ a with stack := a.stack.drop 1, opened := l.reverse }, ?_, rfl, A3, (fun z => absurd z (by decide)), fun _ => ?_⟩
          · show a.stack.drop 1 = _
            rw [A1]
            rcases List.eq_nil_or_concat stk with rfl | ⟨l2, y, rfl⟩
            · rfl
            · rw [List.concat_eq_append, List.dropLast_concat, List.reverse_append]
              rfl
          · show (match a.opened with | true :: o => _ | false :: o => _ | [] => _) = _
            rw [A2']
        | false =>
          rw [if_neg (by decide)] at e1
          subst e1
          refine ⟨{ a with opened := l.reverse }, A1, rfl, A3, (fun z => absurd z (by decide)), fun _ => ?_⟩
          show (match a.opened with | true :: o => _ | false :: o => _ | [] => _) = _
          rw [A2']
          rfl
    · rw [if_neg fun z => k z.1] at e1 e2
      subst e1 e2
      refine ⟨a, A1, A2, A3, fun _ => rfl, fun h => ?_⟩
      revert h k hB
      cases c <;> intro hB k h <;> first | rfl | exact absurd rfl k | exact absurd rfl hB | cases h
  -- the one above
  obtain ⟨l2, y, rfl⟩ : ∃ l2 y, stk' = l2 ++ [y] := ⟨stk'.dropLast, stk'.getLast g1, (List.dropLast_concat_getLast g1).symm⟩
  have hy : y < rs.length := g2 y (by simp)
  have ht : b.top = ((rAt rs y).1, y) := by
    unfold Sh32.At.top
    rw [hb1, List.reverse_append]
    rfl
  have eu : (if c = .B then 0 else (l2 ++ [y]).getLastD 0) = y := by
    rw [if_neg hB, List.getLastD_concat]
  have hset := set_at rs y i
  have hlen : (rs.set y ((rAt rs y).1, (rAt rs y).2 ++ [i])).length = rs.length := List.length_set ..
  have hR0 : b.stack = (l2 ++ [y]).reverse.map fun j => ((rAt (rs.set y ((rAt rs y).1, (rAt rs y).2 ++ [i])) j).1, j) := by
    rw [hb1]
    refine List.map_congr_left fun j hj => ?_
    rw [hset j hy]
  by_cases k : Sh32.opens c = true
  · have eb := hb4.1 k
    subst eb
    -- the level pushed
    obtain ⟨lv, el, ep⟩ : ∃ lv : Nat, pushI c ((rAt rs y).1 : Nat) ((S.lookup (i : Int)).getD 0) = (lv : Int) ∧ Sh32.embed b (c :: r) = b.top :: Sh32.embed (b.push lv) r := by
      unfold pushI
      revert k hS
      cases c <;> intro hS k <;> first | cases k | skip
      · refine ⟨Sh32.nextEven (rAt rs y).1, above0 _, ?_⟩
        show b.top :: Sh32.embed (b.push (Sh32.nextEven b.top.1)) r = _
        rw [ht]
      · refine ⟨Sh32.nextOdd (rAt rs y).1, above1 _, ?_⟩
        show b.top :: Sh32.embed (b.push (Sh32.nextOdd b.top.1)) r = _
        rw [ht]
      · rw [hS rfl]
        refine ⟨if Sh32.sideOf r = 1 then Sh32.nextOdd (rAt rs y).1 else Sh32.nextEven (rAt rs y).1, ?_, ?_⟩
        · rw [if_pos rfl]
          by_cases h1 : Sh32.sideOf r = 1
          · rw [if_pos h1, h1]; exact above1 _
          · have h0 : Sh32.sideOf r = 0 := by
              revert h1
              unfold Sh32.sideOf
              split <;> simp
            rw [if_neg h1, h0]; exact above0 _
        · show b.top :: Sh32.embed (b.push (if Sh32.sideOf r = 1 then Sh32.nextOdd b.top.1 else Sh32.nextEven b.top.1)) r = _
          rw [ht]
    have est : stR S (rs, stk, wt) (c, i) = if lv ≤ 60 then (rs.set y ((rAt rs y).1, (rAt rs y).2 ++ [i]) ++ [(lv, [])], (l2 ++ [y]) ++ [rs.length], wt' ++ [true]) else (rs.set y ((rAt rs y).1, (rAt rs y).2 ++ [i]), l2 ++ [y], wt' ++ [false]) := by
      unfold stR
      dsimp only
      rw [e1, e2, eu, if_pos k, el]
      rfl
    refine ⟨y, b.push lv, by rw [ep, ht], ?_⟩
    rw [est]
    by_cases k60 : lv ≤ 60
    · rw [if_pos k60]
      have epu : b.push lv = ⟨(lv, b.runs) :: b.stack, true :: b.opened, b.runs + 1⟩ := by
        unfold Sh32.At.push
        rw [if_neg (by omega)]
      rw [epu]
      refine ⟨⟨?_, ?_, ?_⟩, hy, fun j => ?_, fun j hj => ?_, ?_⟩
      · show (lv, b.runs) :: b.stack = _
        dsimp only
        rw [List.reverse_append, List.map_append]
        show _ = (_, rs.length) :: _
        congr 1
        · rw [hb3]
          congr 1
          unfold rAt
          rw [List.getD_eq_getElem?_getD, List.getElem?_append_right (by rw [hlen]; exact Nat.le_refl _), hlen, Nat.sub_self]
          rfl
        · rw [hR0]
          refine List.map_congr_left fun j hj => ?_
          rw [app_at _ _ _ (by rw [hlen]; exact g2 j (List.mem_reverse.mp hj))]
      · show true :: b.opened = (wt' ++ [true]).reverse
        rw [hb2, List.reverse_append]
        rfl
      · show b.runs + 1 = (rs.set y _ ++ [(lv, [])]).length
        rw [hb3, List.length_append, hlen]
        rfl
      · dsimp only
        rw [app_at2, hset j hy]
      · dsimp only
        rw [app_at _ _ _ (by rw [hlen]; exact hj), hset j hy]
      · dsimp only
        rw [List.length_append, hlen]
        omega
    · rw [if_neg k60]
      have epu : b.push lv = { b with opened := false :: b.opened } := by
        unfold Sh32.At.push
        rw [if_pos (by omega)]
      rw [epu]
      refine ⟨⟨hR0, ?_, ?_⟩, hy, fun j => ?_, fun j hj => ?_, ?_⟩
      · show false :: b.opened = (wt' ++ [false]).reverse
        rw [hb2, List.reverse_append]
        rfl
      · show b.runs = _
        rw [hb3, hlen]
      · dsimp only
        rw [hset j hy]
      · dsimp only
        rw [hset j hy]
      · exact Nat.le_of_eq hlen.symm
  · have est : stR S (rs, stk, wt) (c, i) = (rs.set y ((rAt rs y).1, (rAt rs y).2 ++ [i]), l2 ++ [y], wt') := by
      unfold stR
      dsimp only
      rw [e1, e2, eu, if_neg k]
    refine ⟨y, b, by rw [hb4.2 (by simpa using k), ht], ?_⟩
    rw [est]
    refine ⟨⟨hR0, hb2, by rw [hb3]; exact hlen.symm⟩, hy, fun j => ?_, fun j hj => ?_, Nat.le_of_eq hlen.symm⟩
    · dsimp only
      rw [hset j hy]
    · dsimp only
      rw [hset j hy]
noncomputable def plOf (e : List (Nat × Nat)) (i k : Nat) : List Nat := ((e.zipIdx i).filter fun x => x.1.2 == k).map fun x => x.2
theorem plOf_cons (x : Nat × Nat) (e : List (Nat × Nat)) (i k : Nat) : plOf (x :: e) i k = (if k = x.2 then [i] else []) ++ plOf e (i + 1) k := by
  unfold plOf
  rw [List.zipIdx_cons, List.filter_cons]
  by_cases h : k = x.2
  · subst h
    simp
  · rw [if_neg (by simpa using fun z => h z.symm), if_neg h]
    rfl
theorem emb_runs (S : List (Int × Int)) (cs : List Class) : ∀ (s : RSt) (a : Sh32.At) (i n : Nat), RRel s a → RInv s n → (∀ c ∈ cs, c ≠ .B) → (∀ xs r, cs = xs ++ .FI :: r → (S.lookup ((i + xs.length : Nat) : Int)).getD 0 = ((Sh32.sideOf r : Nat) : Int)) →
    s.1.length ≤ ((cs.zipIdx i).foldl (stR S) s).1.length ∧ (∀ k, (rAt ((cs.zipIdx i).foldl (stR S) s).1 k).2 = (rAt s.1 k).2 ++ plOf (Sh32.embed a cs) i k) ∧ (∀ k, k < s.1.length → (rAt ((cs.zipIdx i).foldl (stR S) s).1 k).1 = (rAt s.1 k).1) ∧
    (∀ x ∈ Sh32.embed a cs, x.2 < ((cs.zipIdx i).foldl (stR S) s).1.length ∧ (rAt ((cs.zipIdx i).foldl (stR S) s).1 x.2).1 = x.1) ∧ (Sh32.embed a cs).length = cs.length := by
  induction cs with
  | nil =>
    intro s a i n R I _ _
    exact ⟨Nat.le_refl _, fun k => by simp [plOf, Sh32.embed], fun k _ => rfl, fun x hx => by simp [Sh32.embed] at hx, rfl⟩
  | cons c r ih =>
    intro s a i n R I hB hS
    obtain ⟨id, a', h1, h2, h3, h4, h5, h6⟩ := emb_step S (i := i) r R I (hB c List.mem_cons_self) (fun z => by
      subst z
      exact hS [] r rfl)
    rw [List.zipIdx_cons, List.foldl_cons]
    obtain ⟨q1, q2, q3, q4, q5⟩ := ih _ a' (i + 1) (n + 1) h2 I.step (fun d hd => hB d (List.mem_cons_of_mem _ hd)) (fun xs r' e => by
      have := hS (c :: xs) r' (by rw [e]; rfl)
      rw [List.length_cons] at this
      have e2 : i + 1 + xs.length = i + (xs.length + 1) := by omega
      rw [e2]
      exact this)
    rw [h1]
    refine ⟨by omega, fun k => ?_, fun k hk => ?_, fun x hx => ?_, by rw [List.length_cons, List.length_cons, q5]⟩
    · rw [q2 k, h4 k, plOf_cons, List.append_assoc]
    · rw [q3 k (by omega), h5 k hk]
    · rcases List.mem_cons.mp hx with rfl | hx
      · exact ⟨by show id < _; omega, by show (rAt _ id).1 = _; rw [q3 id (by omega), h5 id h3]⟩
      · exact q4 x hx
end
section
open Sh32 (Class)
theorem settle_len (cs : List Class) : ∀ p s : Class, (Sh32.settle p s cs).length = cs.length := by
  induction cs with
  | nil => intro p s; rfl
  | cons c r ih => intro p s; unfold Sh32.settle; simp only [List.length_cons, ih]
theorem fill_len (o w : Class) (cs : List Class) : ∀ b : Class, (Sh32.fill o w b cs).length = cs.length := by
  induction cs with
  | nil => intro b; rfl
  | cons c r ih =>
    intro b
    unfold Sh32.fill
    split
    · simp only [List.length_cons, ih]
    · simp only [List.length_cons, ih]
theorem vals_len (l : Nat) (cs : List Class) : (valsOf l cs).length = cs.length := by
  unfold valsOf
  rw [List.length_map, fill_len, settle_len]
theorem settle_B (cs : List Class) : ∀ p s : Class, Sh32.settle p s (cs ++ [.B]) = Sh32.settle p s cs ++ [.B] := by
  induction cs with
  | nil => intro p s; rfl
  | cons c r ih => intro p s; rw [List.cons_append]; unfold Sh32.settle; simp only [ih, List.cons_append]
theorem fill_B (o : Class) (cs : List Class) : ∀ b : Class, Sh32.fill o o b (cs ++ [.B]) = Sh32.fill o o b cs ++ [o] := by
  induction cs with
  | nil =>
    intro b
    show Sh32.fill o o b [.B] = [o]
    unfold Sh32.fill
    rw [if_pos (by rfl)]
    show [if b = o then b else o] = [o]
    split
    · rename_i h; rw [h]
    · rfl
  | cons c r ih =>
    intro b
    have hf : (r ++ [Class.B]).find? (fun d => !Sh32.neutral d) = r.find? (fun d => !Sh32.neutral d) := by
      rw [List.find?_append]
      have : ([.B] : List Class).find? (fun d => !Sh32.neutral d) = none := rfl
      rw [this, Option.or_none]
    rw [List.cons_append]
    unfold Sh32.fill
    rw [hf, ih, ih]
    split <;> rfl
theorem vals_B (l : Nat) (cs : List Class) : valsOf l (cs ++ [.B]) = valsOf l cs ++ [l] := by
  unfold valsOf
  rw [settle_B, fill_B, List.map_append]
  congr 1
  show [Sh32.levelOf l (Sh32.sideClass l)] = [l]
  congr 1
  unfold Sh32.levelOf Sh32.sideClass
  by_cases h : l % 2 = 0
  · simp [h]
  · simp [h]
theorem setAll_at (v : Nat → Int) (ps : List (Nat × Int)) : ∀ (l : List Int) (i : Nat), i < l.length → (∀ x ∈ ps, x.2 = v x.1) → (setAll l ps)[i]? = if i ∈ ps.map (fun x => x.1) then some (v i) else l[i]? := by
  induction ps with
  | nil => intro l i _ _; simp [setAll]
  | cons p r ih =>
    intro l i hi h
    show (setAll (l.set p.1 p.2) r)[i]? = _
    rw [ih _ _ (by rw [List.length_set]; exact hi) fun x hx => h x (List.mem_cons_of_mem _ hx), List.map_cons]
    by_cases k : i ∈ r.map fun x => x.1
    · rw [if_pos k, if_pos (List.mem_cons_of_mem _ k)]
    · rw [if_neg k, List.getElem?_set]
      by_cases k2 : p.1 = i
      · rw [if_pos k2, if_pos (by omega), if_pos (by rw [k2]; exact List.mem_cons_self), h p List.mem_cons_self, k2]
      · rw [if_neg k2, if_neg]
        intro z
        rcases List.mem_cons.mp z with z | z
        · exact k2 z.symm
        · exact k z
noncomputable def pairsI (cs : List Class) (r : Nat × List Nat) : List (Nat × Int) := r.2.zip (runLv r.1 (r.2.map fun k => cs.getD k .O))
theorem set_flat (cs : List Class) (rs : List (Nat × List Nat)) : ∀ l : List Int, rs.foldl (fun l r => setAll l (pairsI cs r)) l = setAll l (rs.flatMap (pairsI cs)) := by
  induction rs with
  | nil => intro l; rfl
  | cons r rs ih =>
    intro l
    rw [List.foldl_cons, ih, List.flatMap_cons]
    unfold setAll
    rw [List.foldl_append]
theorem paraLv_vals (side : Int) (cs : List Class) (v : Nat → Int) (h1 : ∀ r ∈ runsM side cs, ∀ x ∈ pairsI cs r, x.2 = v x.1) (h2 : ∀ i, i < cs.length → ∃ r ∈ runsM side cs, ∃ x ∈ pairsI cs r, x.1 = i) : paraLv side cs = (List.range cs.length).map v := by
  have e : paraLv side cs = setAll (List.replicate cs.length 0) ((runsM side cs).flatMap (pairsI cs)) := set_flat cs _ _
  apply List.ext_getElem?
  intro i
  by_cases hi : i < cs.length
  · rw [e, setAll_at v _ _ i (by rw [List.length_replicate]; exact hi) fun x hx => by
      obtain ⟨r, hr, hx⟩ := List.mem_flatMap.mp hx
      exact h1 r hr x hx, if_pos, List.getElem?_map, List.getElem?_range hi]
    · rfl
    · obtain ⟨r, hr, x, hx, rfl⟩ := h2 i hi
      exact List.mem_map.mpr ⟨x, List.mem_flatMap.mpr ⟨r, hr, hx⟩, rfl⟩
  · rw [List.getElem?_eq_none (by rw [paraLv_len]; omega), List.getElem?_eq_none (by rw [List.length_map, List.length_range]; omega)]
theorem pl_mem (e : List (Nat × Nat)) (k i : Nat) : i ∈ plOf e 0 k ↔ ∃ x, e[i]? = some x ∧ x.2 = k := by
  unfold plOf
  rw [List.mem_map]
  constructor
  · rintro ⟨x, hx, rfl⟩
    rw [List.mem_filter] at hx
    have := List.mk_mem_zipIdx_iff_getElem?.mp (show (x.1, x.2) ∈ e.zipIdx from hx.1)
    exact ⟨x.1, this, by simpa using hx.2⟩
  · rintro ⟨x, hx, rfl⟩
    refine ⟨(x, i), List.mem_filter.mpr ⟨List.mk_mem_zipIdx_iff_getElem?.mpr hx, by simp⟩, rfl⟩
theorem pl_nodup (e : List (Nat × Nat)) (k : Nat) : (plOf e 0 k).Nodup := by
  unfold plOf
  have h : (e.zipIdx.map fun x => x.2).Nodup := by
    have : (e.zipIdx.map fun x => x.2) = List.range' 0 e.length := List.zipIdx_map_snd 0 e
    rw [this]
    exact List.nodup_range'
  exact List.Nodup.sublist (List.Sublist.map _ List.filter_sublist) h
theorem zip_uniq {α : Type} {P : List Nat} {V : List α} (h : P.Nodup) {x y : Nat × α} (hx : x ∈ P.zip V) (hy : y ∈ P.zip V) (e : x.1 = y.1) : x = y := by
  obtain ⟨j, hj, ej⟩ := List.mem_iff_getElem.mp hx
  obtain ⟨m, hm, em⟩ := List.mem_iff_getElem.mp hy
  rw [List.length_zip] at hj hm
  rw [List.getElem_zip] at ej em
  have e1 : P[j] = P[m] := by rw [← ej, ← em] at e; exact e
  have e2 : j = m := (List.getElem_inj h).mp e1
  subst e2
  rw [← ej, ← em]
theorem zip_has {α : Type} {P : List Nat} {V : List α} (h : P.length = V.length) {i : Nat} (hi : i ∈ P) : ∃ x ∈ P.zip V, x.1 = i := by
  obtain ⟨j, hj, ej⟩ := List.mem_iff_getElem.mp hi
  refine ⟨(P[j], V[j]), List.mem_iff_getElem.mpr ⟨j, by rw [List.length_zip]; omega, List.getElem_zip⟩, ej⟩
theorem at_mem {rs : List (Nat × List Nat)} {k : Nat} (h : k < rs.length) : rAt rs k ∈ rs := by
  unfold rAt
  rw [List.getD_eq_getElem?_getD, List.getElem?_eq_getElem h]
  exact List.getElem_mem h
theorem mem_at {rs : List (Nat × List Nat)} {r : Nat × List Nat} (h : r ∈ rs) : ∃ k, k < rs.length ∧ rAt rs k = r := by
  obtain ⟨k, hk, e⟩ := List.mem_iff_getElem.mp h
  refine ⟨k, hk, ?_⟩
  unfold rAt
  rw [List.getD_eq_getElem?_getD, List.getElem?_eq_getElem hk, e]
  rfl
theorem max_le (l : List Nat) : ∀ b : Nat, b ≤ l.foldl max b ∧ ∀ x ∈ l, x ≤ l.foldl max b := by
  induction l with
  | nil => intro b; exact ⟨Nat.le_refl _, fun x hx => nomatch hx⟩
  | cons y r ih =>
    intro b
    rw [List.foldl_cons]
    obtain ⟨h1, h2⟩ := ih (max b y)
    refine ⟨by omega, fun x hx => ?_⟩
    rcases List.mem_cons.mp hx with rfl | hx
    · omega
    · exact h2 x hx
noncomputable def prOf (Q : List Class) (e : List (Nat × Nat)) (lev : Nat → Nat) (k : Nat) : List (Nat × Nat) := (plOf e 0 k).zip (valsOf (lev k) ((plOf e 0 k).map fun i => Q.getD i .O))
noncomputable def vAt (Q : List Class) (e : List (Nat × Nat)) (lev : Nat → Nat) (i : Nat) : Nat := (((prOf Q e lev (e.getD i (0, 0)).2).find? fun x => x.1 == i).map fun x => x.2).getD 0
theorem pr_key {Q : List Class} {e : List (Nat × Nat)} {lev : Nat → Nat} {k : Nat} {x : Nat × Nat} (h : x ∈ prOf Q e lev k) : (e.getD x.1 (0, 0)).2 = k ∧ x.1 < e.length := by
  obtain ⟨y, hy, ek⟩ := (pl_mem e k x.1).mp (List.of_mem_zip (show (x.1, x.2) ∈ (plOf e 0 k).zip _ from h)).1
  refine ⟨?_, (List.getElem?_eq_some_iff.mp hy).1⟩
  rw [List.getD_eq_getElem?_getD, hy]
  exact ek
theorem pr_val {Q : List Class} {e : List (Nat × Nat)} {lev : Nat → Nat} {k : Nat} {x : Nat × Nat} (h : x ∈ prOf Q e lev k) : x.2 = vAt Q e lev x.1 := by
  unfold vAt
  rw [(pr_key h).1]
  cases hf : (prOf Q e lev k).find? fun y => y.1 == x.1 with
  | none => have := List.find?_eq_none.mp hf x h; simp at this
  | some y =>
    have h1 := List.mem_of_find?_eq_some hf
    have h2 : y.1 = x.1 := by simpa using List.find?_some hf
    have := zip_uniq (pl_nodup e k) h1 h h2
    rw [this]
    rfl
theorem pr_has (Q : List Class) (e : List (Nat × Nat)) (lev : Nat → Nat) {i : Nat} (hi : i < e.length) : ∃ x ∈ prOf Q e lev (e.getD i (0, 0)).2, x.1 = i := by
  refine zip_has (by rw [vals_len, List.length_map]) ((pl_mem e _ i).mpr ⟨e[i], List.getElem?_eq_getElem hi, ?_⟩)
  rw [List.getD_eq_getElem?_getD, List.getElem?_eq_getElem hi]
  rfl
theorem inner_eq (Q : List Class) (e : List (Nat × Nat)) (lev : Nat → Nat) (hl : e.length = Q.length) (hv : ∀ x ∈ e, lev x.2 = x.1) (side : Nat) :
    (List.range (Q.zip e).length).map (fun i => ((((List.range ((e.map fun x => x.2).foldl max 0 + 1)).flatMap fun k =>
      let mine := (Q.zip e).zipIdx.filter fun x => x.1.2.2 == k
      let l := ((mine.head?).map fun x => x.1.2.1).getD 0
      let own := Sh32.sideClass l
      let c := Sh32.fill own own own (Sh32.settle own own (mine.map fun x => x.1.1))
      (mine.zip c).map fun x => (x.1.2, Sh32.levelOf l x.2)).find? fun x => x.1 == i).map fun x => x.2).getD side) = (List.range Q.length).map (vAt Q e lev) := by
  have ek : ∀ k, (let mine := (Q.zip e).zipIdx.filter fun x => x.1.2.2 == k
      let l := ((mine.head?).map fun x => x.1.2.1).getD 0
      let own := Sh32.sideClass l
      let c := Sh32.fill own own own (Sh32.settle own own (mine.map fun x => x.1.1))
      (mine.zip c).map fun x => (x.1.2, Sh32.levelOf l x.2)) = prOf Q e lev k := by
    intro k
    dsimp only
    generalize hm : (Q.zip e).zipIdx.filter (fun x => x.1.2.2 == k) = mine
    have hmem : ∀ x ∈ mine, x.1.2.2 = k ∧ Q[x.2]? = some x.1.1 ∧ e[x.2]? = some x.1.2 := fun x hx => by
      rw [← hm, List.mem_filter] at hx
      have h1 := List.mk_mem_zipIdx_iff_getElem?.mp (show (x.1, x.2) ∈ (Q.zip e).zipIdx from hx.1)
      have h2 := List.getElem?_zip_eq_some.mp h1
      exact ⟨by simpa using hx.2, h2.1, h2.2⟩
    have hp : mine.map (fun x => x.2) = plOf e 0 k := by
      unfold plOf
      rw [← hm]
      have ez : e.zipIdx = (Q.zip e).zipIdx.map fun x => (x.1.2, x.2) := by
        apply List.ext_getElem?
        intro i
        rw [List.getElem?_map, List.getElem?_zipIdx, List.getElem?_zipIdx]
        by_cases hi : i < e.length
        · rw [List.getElem?_eq_getElem hi, List.getElem?_eq_getElem (by rw [List.length_zip]; omega), List.getElem_zip]
          rfl
        · rw [List.getElem?_eq_none (by omega), List.getElem?_eq_none (by rw [List.length_zip]; omega)]
          rfl
      rw [ez, List.filter_map, List.map_map]
      rfl
    have hc : mine.map (fun x => x.1.1) = (plOf e 0 k).map fun i => Q.getD i .O := by
      rw [← hp, List.map_map]
      refine List.map_congr_left fun x hx => ?_
      show x.1.1 = Q.getD x.2 .O
      rw [List.getD_eq_getElem?_getD, (hmem x hx).2.1]
      rfl
    unfold prOf
    rw [← hc, ← hp]
    cases mine with
    | nil => rfl
    | cons y ys =>
      have el : ((((y :: ys).head?).map fun x => x.1.2.1).getD 0) = lev k := by
        show y.1.2.1 = lev k
        have h1 := hmem y List.mem_cons_self
        rw [← h1.1]
        exact (hv _ (List.mem_of_getElem? h1.2.2)).symm
      rw [el]
      unfold valsOf
      rw [List.zip_map]
      rfl
  simp only [ek]
  have hlen : (Q.zip e).length = Q.length := by rw [List.length_zip]; omega
  rw [hlen]
  refine List.map_congr_left fun i hi => ?_
  have hi' := List.mem_range.mp hi
  have hie : i < e.length := by omega
  generalize hd : ((List.range ((e.map fun x => x.2).foldl max 0 + 1)).flatMap fun k => prOf Q e lev k) = done
  have h0 : ∃ x ∈ done, x.1 = i := by
    obtain ⟨x, hx, ei⟩ := pr_has Q e lev hie
    refine ⟨x, ?_, ei⟩
    rw [← hd]
    refine List.mem_flatMap.mpr ⟨_, List.mem_range.mpr ?_, hx⟩
    have : e[i].2 ∈ e.map fun x => x.2 := List.mem_map.mpr ⟨e[i], List.getElem_mem hie, rfl⟩
    have := (max_le (e.map fun x => x.2) 0).2 _ this
    rw [List.getD_eq_getElem?_getD, List.getElem?_eq_getElem hie]
    show e[i].2 < _
    omega
  cases hf : done.find? fun x => x.1 == i with
  | none =>
    obtain ⟨x, hx, ei⟩ := h0
    have := List.find?_eq_none.mp hf x hx
    simp [ei] at this
  | some y =>
    have h1 := List.mem_of_find?_eq_some hf
    have h2 : y.1 = i := by simpa using List.find?_some hf
    rw [← hd] at h1
    obtain ⟨k, _, hk⟩ := List.mem_flatMap.mp h1
    show y.2 = _
    rw [pr_val hk, h2]
theorem para_eq (side : Nat) (q p : List Nat) (hq : ∀ x ∈ q, x ≠ 10) (hp : p = q ∨ p = q ++ [10]) : paraLv (side : Int) (p.map Sh32.classOf) = up (Sh32.paraLevels side p) := by
  obtain ⟨tl, et, ep⟩ : ∃ tl : List Class, (tl = [] ∨ tl = [.B]) ∧ p.map Sh32.classOf = q.map Sh32.classOf ++ tl := by
    rcases hp with rfl | rfl
    · exact ⟨[], .inl rfl, by simp⟩
    · exact ⟨[.B], .inr rfl, by rw [List.map_append]; rfl⟩
  have hB : ∀ c ∈ q.map Sh32.classOf, c ≠ .B := fun c hc => by
    obtain ⟨x, hx, rfl⟩ := List.mem_map.mp hc
    exact fun z => hq x hx ((cls_B x).mp z)
  have elen : p.length = q.length + tl.length := by
    have := congrArg List.length ep
    rw [List.length_append, List.length_map, List.length_map] at this
    exact this
  have ef : (p.map Sh32.classOf).filter (fun c => c != .B) = q.map Sh32.classOf := by
    rw [ep, List.filter_append]
    have h1 : (q.map Sh32.classOf).filter (fun c => c != .B) = q.map Sh32.classOf := List.filter_eq_self.mpr fun c hc => by simpa using hB c hc
    rw [h1]
    rcases et with rfl | rfl <;> simp
  unfold Sh32.paraLevels
  simp only [ef]
  have es := side0_eq (p.map Sh32.classOf) side
  generalize hsd : (if side = 2 then Sh32.paraSide (p.map Sh32.classOf) else side) = sd at es
  have hQl : (q.map Sh32.classOf).length = q.length := List.length_map ..
  generalize hQ : q.map Sh32.classOf = Q at *
  have hS : ∀ xs r, Q = xs ++ .FI :: r → ((sidesM (p.map Sh32.classOf)).lookup ((0 + xs.length : Nat) : Int)).getD 0 = ((Sh32.sideOf r : Nat) : Int) := fun xs r e => by
    rw [ep, e, List.append_assoc, List.cons_append, Nat.zero_add, sides_at xs .FI (r ++ tl) rfl, sideOf_eq, ← strong_flt r, ← strong_flt (r ++ tl), List.filter_append]
    rcases et with rfl | rfl <;> simp
  obtain ⟨f1, f2, f3, f4, f5⟩ := emb_runs (sidesM (p.map Sh32.classOf)) Q ([(sd, [])], [0], []) ⟨[(sd, 0)], [], 1⟩ 0 0 ⟨rfl, rfl, rfl⟩ ⟨by simp, by simp, by simp, by simp, by simp, by simp, by simp, by simp⟩ hB hS
  have erun : runsSt side (p.map Sh32.classOf) (p.map Sh32.classOf).zipIdx = (tl.zipIdx Q.length).foldl (stR (sidesM (p.map Sh32.classOf))) (Q.zipIdx.foldl (stR (sidesM (p.map Sh32.classOf))) ([(sd, [])], [0], [])) := by
    unfold runsSt
    rw [es, Int.toNat_natCast, ← List.foldl_append]
    congr 1
    rw [ep, List.zipIdx_append, Nat.zero_add]
  generalize hF : Q.zipIdx.foldl (stR (sidesM (p.map Sh32.classOf))) ([(sd, [])], [0], []) = F at *
  generalize hE : Sh32.embed ⟨[(sd, 0)], [], 1⟩ Q = e at *
  have f2' : ∀ k, (rAt F.1 k).2 = plOf e 0 k := fun k => by
    rw [f2 k]
    have : (rAt [(sd, ([] : List Nat))] k).2 = [] := by
      unfold rAt
      cases k <;> rfl
    dsimp only
    rw [this, List.nil_append]
  have f3' : (rAt F.1 0).1 = sd := f3 0 (by simp)
  have hpos : 0 < F.1.length := by
    have : 1 ≤ F.1.length := f1
    omega
  generalize hlev : (fun k => (rAt F.1 k).1) = lev
  have hlev' : ∀ k, (rAt F.1 k).1 = lev k := fun k => by rw [← hlev]
  have hI := inner_eq Q e lev f5 (fun x hx => by rw [← hlev']; exact (f4 x hx).2) sd
  rw [hI]
  have epq : ∀ k, (plOf e 0 k).map (fun i => (Q ++ tl).getD i .O) = (plOf e 0 k).map fun i => Q.getD i .O := fun k => by
    refine List.map_congr_left fun i hi => ?_
    obtain ⟨x, hx, _⟩ := (pl_mem e k i).mp hi
    have := (List.getElem?_eq_some_iff.mp hx).1
    rw [List.getD_eq_getElem?_getD, List.getElem?_append_left (by omega), ← List.getD_eq_getElem?_getD]
  have epr : ∀ k, pairsI (Q ++ tl) (lev k, plOf e 0 k) = (prOf Q e lev k).map fun x => (x.1, (x.2 : Int)) := fun k => by
    unfold pairsI prOf
    dsimp only
    rw [epq, runLv_eq, List.zip_map_right]
    rfl
  have eat : ∀ k, rAt F.1 k = (lev k, plOf e 0 k) := fun k => by rw [← hlev' k, ← f2' k]
  rw [List.length_map, List.length_range]
  rcases et with rfl | rfl
  · -- no line's end
    have er : runsM side (p.map Sh32.classOf) = F.1 := by
      unfold runsM
      rw [erun]
      rfl
    have := paraLv_vals (side : Int) (p.map Sh32.classOf) (fun i => ((vAt Q e lev i : Nat) : Int)) (fun r hr x hx => by
      rw [er] at hr
      obtain ⟨k, hk, rfl⟩ := mem_at hr
      rw [ep, eat, epr] at hx
      obtain ⟨y, hy, rfl⟩ := List.mem_map.mp hx
      show ((y.2 : Nat) : Int) = _
      rw [pr_val hy]) (fun i hi => by
      rw [ep, List.append_nil] at hi
      have hie : i < e.length := by omega
      obtain ⟨x, hx, ei⟩ := pr_has Q e lev hie
      have hm : e[i] ∈ e := List.getElem_mem hie
      have hk := (f4 _ hm).1
      have e2 : (e.getD i (0, 0)).2 = e[i].2 := by rw [List.getD_eq_getElem?_getD, List.getElem?_eq_getElem hie]; rfl
      refine ⟨rAt F.1 (e.getD i (0, 0)).2, by rw [er]; exact at_mem (by rw [e2]; exact hk), (x.1, (x.2 : Int)), ?_, ei⟩
      rw [ep, eat, epr]
      exact List.mem_map.mpr ⟨x, hx, rfl⟩)
    rw [this]
    have e0 : p.length - Q.length = 0 := by rw [elen, hQl]; simp
    have e1 : (p.map Sh32.classOf).length = Q.length := by rw [ep, List.append_nil]
    rw [e0, e1]
    unfold up
    simp
  · -- a line's end
    have er : runsM side (p.map Sh32.classOf) = F.1.set 0 ((rAt F.1 0).1, (rAt F.1 0).2 ++ [Q.length]) := by
      unfold runsM
      rw [erun]
      rfl
    have hset := fun k => set_at F.1 0 Q.length k hpos
    have epB : pairsI (Q ++ [.B]) (lev 0, plOf e 0 0 ++ [Q.length]) = ((prOf Q e lev 0) ++ [(Q.length, sd)]).map fun x => (x.1, (x.2 : Int)) := by
      unfold pairsI prOf
      dsimp only
      have eB : (plOf e 0 0 ++ [Q.length]).map (fun k => (Q ++ [Class.B]).getD k .O) = (plOf e 0 0).map (fun i => Q.getD i .O) ++ [.B] := by
        rw [List.map_append, epq]
        congr 1
        show [(Q ++ [Class.B]).getD Q.length .O] = [.B]
        rw [List.getD_eq_getElem?_getD, List.getElem?_append_right (Nat.le_refl _), Nat.sub_self]
        rfl
      rw [eB, runLv_eq, vals_B, List.map_append, List.zip_append (by rw [List.length_map, vals_len, List.length_map]), List.map_append, List.zip_map_right]
      rw [← hlev' 0, f3']
      rfl
    have := paraLv_vals (side : Int) (p.map Sh32.classOf) (fun i => ((if i = Q.length then sd else vAt Q e lev i : Nat) : Int)) (fun r hr x hx => by
      rw [er] at hr
      obtain ⟨k, hk, rfl⟩ := mem_at hr
      rw [hset, eat] at hx
      have key : ∀ y ∈ prOf Q e lev k, ((y.2 : Nat) : Int) = ((if y.1 = Q.length then sd else vAt Q e lev y.1 : Nat) : Int) := fun y hy => by
        rw [if_neg (by have := (pr_key hy).2; omega), pr_val hy]
      by_cases k0 : k = 0
      · subst k0
        rw [if_pos rfl, ep] at hx
        dsimp only at hx
        rw [epB] at hx
        obtain ⟨y, hy, rfl⟩ := List.mem_map.mp hx
        rcases List.mem_append.mp hy with hy | hy
        · exact key y hy
        · rw [List.mem_singleton.mp hy]
          dsimp only
          rw [if_pos rfl]
      · rw [if_neg k0, ep] at hx
        dsimp only at hx
        rw [List.append_nil, epr] at hx
        obtain ⟨y, hy, rfl⟩ := List.mem_map.mp hx
        exact key y hy) (fun i hi => by
      rw [ep, List.length_append] at hi
      have hi1 : i < Q.length + 1 := hi
      have hl0 : (F.1.set 0 ((rAt F.1 0).1, (rAt F.1 0).2 ++ [Q.length])).length = F.1.length := List.length_set ..
      by_cases hin : i = Q.length
      · refine ⟨rAt (F.1.set 0 ((rAt F.1 0).1, (rAt F.1 0).2 ++ [Q.length])) 0, by rw [er]; exact at_mem (by rw [hl0]; exact hpos), (Q.length, (sd : Int)), ?_, hin.symm⟩
        rw [hset, if_pos rfl, eat, ep]
        dsimp only
        rw [epB]
        exact List.mem_map.mpr ⟨(Q.length, sd), by simp, rfl⟩
      · have hie : i < e.length := by omega
        obtain ⟨x, hx, ei⟩ := pr_has Q e lev hie
        have hm : e[i] ∈ e := List.getElem_mem hie
        have hk := (f4 _ hm).1
        have e2 : (e.getD i (0, 0)).2 = e[i].2 := by rw [List.getD_eq_getElem?_getD, List.getElem?_eq_getElem hie]; rfl
        generalize hkk : (e.getD i (0, 0)).2 = kk at *
        refine ⟨rAt (F.1.set 0 ((rAt F.1 0).1, (rAt F.1 0).2 ++ [Q.length])) kk, by rw [er]; exact at_mem (by rw [hl0, e2]; exact hk), (x.1, (x.2 : Int)), ?_, ei⟩
        rw [hset, eat, ep]
        by_cases k0 : kk = 0
        · rw [k0] at hx ⊢
          rw [if_pos rfl]
          dsimp only
          rw [epB]
          exact List.mem_map.mpr ⟨x, List.mem_append_left _ hx, rfl⟩
        · rw [if_neg k0]
          dsimp only
          rw [List.append_nil, epr]
          exact List.mem_map.mpr ⟨x, hx, rfl⟩)
    rw [this]
    have e0 : p.length - Q.length = 1 := by rw [elen, hQl]; simp
    have e1 : (p.map Sh32.classOf).length = Q.length + 1 := by rw [ep, List.length_append]; rfl
    rw [e0, e1, List.range_succ, List.map_append]
    unfold up
    rw [List.map_append, List.map_map]
    congr 1
    · refine List.map_congr_left fun i hi => ?_
      have := List.mem_range.mp hi
      show ((if i = Q.length then sd else vAt Q e lev i : Nat) : Int) = _
      rw [if_neg (by omega)]
      rfl
    · show [((if Q.length = Q.length then sd else _ : Nat) : Int)] = [(sd : Int)]
      rw [if_pos rfl]
end
section
open Sh32 (Class)
noncomputable def gT {α : Type} (p : α → Bool) (str : List α) : List α → List α
  | [] => str.reverse
  | x :: r => if p x = true then gT p (str ++ [x]) r else str.reverse ++ (x :: gT p [] r)
theorem gT_app {α : Type} (p : α → Bool) (rest : List α) : ∀ (a str : List α), (∀ x ∈ a, p x = true) → gT p str (a ++ rest) = gT p (str ++ a) rest
  | [], str, _ => by rw [List.nil_append, List.append_nil]
  | x :: a, str, h => by
    rw [List.cons_append, gT, if_pos (h x List.mem_cons_self), gT_app p rest a _ fun y hy => h y (List.mem_cons_of_mem _ hy), List.append_assoc]
    rfl
theorem gT_rest {α : Type} (p : α → Bool) (str rest : List α) (h : rest = [] ∨ ∃ x r, rest = x :: r ∧ p x = false) : gT p str rest = str.reverse ++ gT p [] rest := by
  rcases h with rfl | ⟨x, r, rfl, h⟩
  · simp [gT]
  · rw [gT, gT, if_neg (by rw [h]; decide), if_neg (by rw [h]; decide)]
    simp
theorem turn_eq {α : Type} (p : α → Bool) : ∀ (f : Nat) (l : List α), l.length < f → Sh32.turnRuns p f l = gT p [] l
  | 0, l, h => by omega
  | f + 1, [], _ => rfl
  | f + 1, x :: r, h => by
    unfold Sh32.turnRuns
    dsimp only
    by_cases k : p x = true
    · rw [if_pos k]
      have e : x :: r = (x :: r).takeWhile p ++ (x :: r).dropWhile p := (List.takeWhile_append_dropWhile).symm
      have hd : (x :: r).drop ((x :: r).takeWhile p).length = (x :: r).dropWhile p := by
        conv => lhs; rw [show (x :: r).drop ((x :: r).takeWhile p).length = ((x :: r).takeWhile p ++ (x :: r).dropWhile p).drop ((x :: r).takeWhile p).length from by rw [← e]]
        rw [List.drop_left]
      have hr : (x :: r).dropWhile p = [] ∨ ∃ y q, (x :: r).dropWhile p = y :: q ∧ p y = false := by
        cases e2 : (x :: r).dropWhile p with
        | nil => exact .inl rfl
        | cons y q =>
          have h1 := List.head?_dropWhile_not p (x :: r)
          rw [e2] at h1
          simp at h1
          exact .inr ⟨y, q, rfl, h1⟩
      have hlen : ((x :: r).dropWhile p).length < f := by
        have h1 : 0 < ((x :: r).takeWhile p).length := by
          rw [List.takeWhile_cons, if_pos k]
          simp
        have h2 := congrArg List.length e
        rw [List.length_append] at h2
        omega
      rw [hd, turn_eq p f _ hlen]
      conv => rhs; rw [e]
      rw [gT_app p _ _ [] fun y hy => tw_imp hy, List.nil_append]
      exact (gT_rest p ((x :: r).takeWhile p) ((x :: r).dropWhile p) hr).symm
    · rw [if_neg k, gT, if_neg k, turn_eq p f r (by rw [List.length_cons] at h; omega)]
      rfl
theorem gT_mem {α : Type} (p : α → Bool) (x : α) : ∀ (l str : List α), x ∈ gT p str l → x ∈ str ∨ x ∈ l
  | [], str, h => .inl (by simpa [gT] using h)
  | y :: r, str, h => by
    rw [gT] at h
    split at h
    · rcases gT_mem p x r _ h with q | q
      · rcases List.mem_append.mp q with q | q
        · exact .inl q
        · exact .inr (by rw [List.mem_singleton.mp q]; exact List.mem_cons_self)
      · exact .inr (List.mem_cons_of_mem _ q)
    · rcases List.mem_append.mp h with q | q
      · exact .inl (List.mem_reverse.mp q)
      · rcases List.mem_cons.mp q with q | q
        · exact .inr (by rw [q]; exact List.mem_cons_self)
        · rcases gT_mem p x r [] q with q | q
          · cases q
          · exact .inr (List.mem_cons_of_mem _ q)
theorem gT_map {α β : Type} (g : α → β) (p : α → Bool) (q : β → Bool) : ∀ (l str : List α), (∀ x ∈ l, p x = q (g x)) → (gT p str l).map g = gT q (str.map g) (l.map g)
  | [], str, _ => by simp [gT]
  | y :: r, str, h => by
    have h0 := h y List.mem_cons_self
    have h1 : ∀ x ∈ r, p x = q (g x) := fun x hx => h x (List.mem_cons_of_mem _ hx)
    rw [List.map_cons, gT, gT, ← h0]
    split
    · rw [gT_map g p q r _ h1, List.map_append]
      rfl
    · rw [List.map_append, List.map_cons, gT_map g p q r [] h1, List.map_reverse]
      rfl
theorem fold_gT (lv : List Int) (l : Int) (ps : List Nat) : ∀ s : List Nat × List Nat, (ps.foldl (stT lv l) s).1 ++ (ps.foldl (stT lv l) s).2.reverse = s.1 ++ gT (fun p => decide (l ≤ lv.getD p 0)) s.2 ps := by
  induction ps with
  | nil => intro s; rfl
  | cons c r ih =>
    intro s
    rw [List.foldl_cons, ih, gT]
    unfold stT
    by_cases k : l ≤ lv.getD c 0
    · rw [if_pos k, if_pos (by simpa using k)]
    · rw [if_neg k, if_neg (by simpa using k)]
      simp
theorem turnM_gT (lv : List Int) (l : Int) (ps : List Nat) : turnM lv l ps = gT (fun p => decide (l ≤ lv.getD p 0)) [] ps := fold_gT lv l ps ([], [])
theorem upD (l : List Nat) (i : Nat) : (up l).getD i 0 = ((l.getD i 0 : Nat) : Int) := by
  rw [List.getD_eq_getElem?_getD, up_at, List.getD_eq_getElem?_getD]
  cases l[i]? <;> rfl
theorem steps_eq (l : List Nat) (hi : Nat) : ∀ n : Nat, n ≤ hi + 1 →
    let m := (List.range n).foldl (fun (m : List (Nat × Nat)) (i : Nat) => Sh32.turnRuns (fun x => decide (hi - i ≤ x.1)) (m.length + 1) m) l.zipIdx
    (∀ x ∈ m, l.getD x.2 0 = x.1) ∧ m.map (fun x => x.2) = (List.range n).foldl (fun ps i => turnM (up l) ((hi : Int) - (i : Nat)) ps) (List.range l.length)
  | 0, _ => by
    refine ⟨fun x hx => ?_, ?_⟩
    · have := List.mk_mem_zipIdx_iff_getElem?.mp (show (x.1, x.2) ∈ l.zipIdx from hx)
      rw [List.getD_eq_getElem?_getD, this]
      rfl
    · show l.zipIdx.map (fun x => x.2) = List.range l.length
      rw [List.range_eq_range']
      exact List.zipIdx_map_snd 0 l
  | n + 1, hn => by
    obtain ⟨h1, h2⟩ := steps_eq l hi n (by omega)
    dsimp only at h1 h2 ⊢
    rw [List.range_succ, List.foldl_append, List.foldl_append]
    generalize (List.range n).foldl (fun (m : List (Nat × Nat)) (i : Nat) => Sh32.turnRuns (fun x => decide (hi - i ≤ x.1)) (m.length + 1) m) l.zipIdx = m at h1 h2
    rw [← h2]
    show (∀ x ∈ Sh32.turnRuns (fun x => decide (hi - n ≤ x.1)) (m.length + 1) m, l.getD x.2 0 = x.1) ∧ (Sh32.turnRuns (fun x => decide (hi - n ≤ x.1)) (m.length + 1) m).map (fun x => x.2) = turnM (up l) ((hi : Int) - (n : Nat)) (m.map fun x => x.2)
    rw [turn_eq _ _ _ (Nat.lt_succ_self _)]
    refine ⟨fun x hx => ?_, ?_⟩
    · rcases gT_mem _ x m [] hx with q | q
      · cases q
      · exact h1 x q
    · rw [turnM_gT, gT_map (fun x : Nat × Nat => x.2) _ (fun p => decide ((hi : Int) - (n : Nat) ≤ (up l).getD p 0)) m [] fun x hx => ?_]
      · rfl
      · rw [upD, h1 x hx]
        rw [Bool.eq_iff_iff]
        simp
        omega
theorem fold_max_up (r : List Nat) : ∀ x : Nat, ((r.foldl max x : Nat) : Int) = (up r).foldl max (x : Int) := by
  induction r with
  | nil => intro x; rfl
  | cons y r ih =>
    intro x
    rw [List.foldl_cons, ih]
    show _ = (up r).foldl max (max (x : Int) (y : Int))
    congr 1
    omega
theorem top_up (l : List Nat) : topI (up l) = ((l.foldl max 0 : Nat) : Int) := by
  cases l with
  | nil => rfl
  | cons x r =>
    show (up r).foldl max (x : Int) = _
    rw [List.foldl_cons, Nat.zero_max, fold_max_up]
theorem odds_up (l : List Nat) : oddsI (up l) = up (l.filter fun x => x % 2 == 1) := by
  unfold oddsI up
  rw [List.filter_map]
  congr 1
  refine List.filter_congr fun x _ => ?_
  rw [Bool.eq_iff_iff]
  simp
  omega
theorem low_up (l : List Nat) (h : Nat) (hne : l ≠ []) (hh : ∀ x ∈ l, x ≤ h) : lowI (up l) = ((l.foldl min (h + 1) : Nat) : Int) := by
  have hmin : ∀ (r : List Nat) (x : Nat), ((r.foldl min x : Nat) : Int) = (up r).foldl min (x : Int) := fun r => by
    induction r with
    | nil => intro x; rfl
    | cons y r ih =>
      intro x
      rw [List.foldl_cons, ih]
      show _ = (up r).foldl min (min (x : Int) (y : Int))
      congr 1
      omega
  cases l with
  | nil => exact absurd rfl hne
  | cons x r =>
    show (up r).foldl min (x : Int) = _
    rw [List.foldl_cons, hmin]
    have := hh x List.mem_cons_self
    congr 1
    omega
theorem seenM_eq (l : List Nat) : seenM (up l) = Sh32.seen l := by
  unfold seenM Sh32.seen Sh32.seenBy
  dsimp only
  have e1 : l.zipIdx.map (fun x : Nat × Nat => x.1) = l := List.zipIdx_map_fst 0 l
  rw [e1, odds_up, top_up, up_len]
  have hmax := (max_le l 0).2
  generalize hhi : l.foldl max 0 = hi at hmax
  by_cases k : l.filter (fun x => x % 2 == 1) = []
  · rw [k, if_pos (by rfl)]
    show _ = ((List.range (hi + 1 - (hi + 1))).foldl _ l.zipIdx).map fun x => x.2
    rw [Nat.sub_self]
    show _ = l.zipIdx.map fun x => x.2
    rw [List.range_eq_range']
    exact (List.zipIdx_map_snd 0 l).symm
  · rw [if_neg (by
      intro z
      unfold up at z
      exact k (List.map_eq_nil_iff.mp z)), low_up _ hi k fun x hx => hmax x (List.mem_filter.mp hx).1]
    generalize (l.filter fun x => x % 2 == 1).foldl min (hi + 1) = lo
    have hn : ((hi : Int) - ((lo : Int) - 1)).toNat = hi + 1 - lo := by omega
    rw [hn]
    have := (steps_eq l hi (hi + 1 - lo) (by omega)).2
    rw [this]
    unfold turnsM
    rw [top_up, hhi, up_len]
noncomputable def ChainP (b : Nat) : List (Nat × Nat) → Prop
  | [] => True
  | r :: q => r.1 = b ∧ b ≤ r.2 ∧ ChainP r.2 q
theorem goP_chain (cs : List Class) : ∀ b i, b ≤ i → ChainP b (goP b i cs) := by
  induction cs with
  | nil =>
    intro b i h
    unfold goP
    split
    · exact ⟨rfl, h, trivial⟩
    · exact trivial
  | cons c r ih =>
    intro b i h
    unfold goP
    split
    · exact ⟨rfl, by show b ≤ i + 1; omega, ih _ _ (Nat.le_refl _)⟩
    · exact ih _ _ (by omega)
theorem parts_eq (N : List Nat) : (parasM (N.map Sh32.classOf)).map (partOf (N.map Sh32.classOf)) = (Sh32.parasOf N).map fun p => p.map Sh32.classOf := by
  rw [parasM_go, part_go _ (N.map Sh32.classOf) 0 0 (Nat.le_refl _) rfl (Nat.zero_le _)]
  unfold Sh32.parasOf
  rw [paras_split (N.length + 1) N (Nat.lt_succ_self _)]
  rfl
theorem text_go (side : Nat) (cs : List Class) (L : List Int) : ∀ (rs : List (Nat × Nat)) (ps : List (List Nat)) (b : Nat) (acc : List Nat), ChainP b rs → (∀ r ∈ rs, r.2 ≤ cs.length) → rs.map (partOf cs) = ps.map (fun p => p.map Sh32.classOf) →
    (∀ p ∈ ps, ∃ q, (∀ x ∈ q, x ≠ 10) ∧ (p = q ∨ p = q ++ [10])) → L.drop b = rs.flatMap (fun r => paraLv side (partOf cs r)) →
    acc ++ rs.flatMap (partSeen L) = (ps.foldl (fun (s : Nat × List Nat) p => (s.1 + p.length, s.2 ++ (Sh32.seen (Sh32.paraLevels side p)).map fun i => s.1 + i)) (b, acc)).2
  | [], ps, b, acc, _, _, e, _, _ => by
    cases ps with
    | nil => simp
    | cons p ps => cases e
  | r :: rs, [], b, acc, _, _, e, _, _ => by cases e
  | r :: rs, p :: ps, b, acc, ch, hin, e, hp, hL => by
    obtain ⟨c1, c2, c3⟩ := ch
    rw [List.map_cons, List.map_cons] at e
    obtain ⟨e1, e2⟩ := List.cons.inj e
    obtain ⟨q, hq, hpq⟩ := hp p List.mem_cons_self
    have hr := hin r List.mem_cons_self
    have hlen : p.length = r.2 - r.1 := by
      have := congrArg List.length e1
      unfold partOf at this
      rw [List.length_map, List.length_take, List.length_drop] at this
      omega
    have hpl : (paraLv side (partOf cs r)).length = r.2 - r.1 := by
      rw [paraLv_len, e1, List.length_map, hlen]
    rw [List.flatMap_cons] at hL
    have hcut : cutL L r = up (Sh32.paraLevels side p) := by
      unfold cutL
      rw [c1, hL, List.take_left' (by rw [hpl, c1]), e1]
      exact para_eq side q p hq hpq
    have hL2 : L.drop r.2 = rs.flatMap (fun r => paraLv side (partOf cs r)) := by
      have : L.drop r.2 = (L.drop b).drop (r.2 - r.1) := by
        rw [List.drop_drop]
        congr 1
        omega
      rw [this, hL, List.drop_left' hpl]
    rw [List.flatMap_cons, List.foldl_cons, ← List.append_assoc]
    have := text_go side cs L rs ps r.2 (acc ++ (Sh32.seen (Sh32.paraLevels side p)).map fun i => b + i) c3 (fun x hx => hin x (List.mem_cons_of_mem _ hx)) e2 (fun x hx => hp x (List.mem_cons_of_mem _ hx)) hL2
    have eb : b + p.length = r.2 := by omega
    dsimp only
    rw [eb, ← this]
    congr 2
    unfold partSeen
    rw [hcut, seenM_eq, c1]
theorem textSeen_eq (side : Nat) (N : List Nat) : textSeenI side (up N) = Sh32.orderOf N side := by
  unfold textSeenI Sh32.orderOf
  have ec : (up N).map clsN = N.map Sh32.classOf := by
    unfold up
    rw [List.map_map]
    exact List.map_congr_left fun k _ => cls_all k
  have := text_go side (N.map Sh32.classOf) (levelsI side (up N)) (parasM (N.map Sh32.classOf)) (Sh32.parasOf N) 0 [] (by rw [parasM_go]; exact goP_chain _ 0 0 (Nat.le_refl _)) (fun r hr => (paras_in _ r hr).2) (parts_eq N) (fun p hp => paras_form _ _ p hp) (by
    unfold levelsI
    rw [ec]
    rfl)
  rw [ec]
  rw [List.nil_append] at this
  exact this
theorem order_eq (side : Int) (ns : List Int) (h0 : 0 ≤ side) (h : ∀ n ∈ ns, 0 ≤ n) : ansOrder side ns = PySh32.order side ns := by
  obtain ⟨N, rfl⟩ := up_of h
  obtain ⟨s, rfl⟩ : ∃ s : Nat, side = (s : Int) := ⟨side.toNat, (Int.toNat_of_nonneg h0).symm⟩
  have e0 : PySh32.order (s : Int) (up N) = (Sh32.does (.order (Sh32Neutral.nats (up N)) (s : Int).toNat)).v :: (Sh32.does (.order (Sh32Neutral.nats (up N)) (s : Int).toNat)).l := rfl
  rw [e0, nats_up, Int.toNat_natCast]
  show _ = (if (Sh32.isText N && decide (s ≤ 2)) = false then Sh32.num (-8) else ⟨(N.length : Nat), Sh32.ints (Sh32.orderOf N s)⟩ : Sh32.Ans).v :: (if (Sh32.isText N && decide (s ≤ 2)) = false then Sh32.num (-8) else ⟨(N.length : Nat), Sh32.ints (Sh32.orderOf N s)⟩ : Sh32.Ans).l
  unfold ansOrder
  rw [text_eq, up_len]
  by_cases k : s ≤ 2 ∧ Sh32.isText N = true
  · rw [if_pos ⟨by omega, k.2⟩, if_neg (by simp [k.1, k.2]), textSeen_eq]
    rfl
  · rw [if_neg fun z => k ⟨by omega, z.2⟩, if_pos (by
      cases ht : Sh32.isText N with
      | false => rfl
      | true => have : ¬ s ≤ 2 := fun z => k ⟨z, ht⟩; simp [this])]
    rfl
end
end Lf
open PySem PySem.W PyProof.Rows
theorem Lf.said_order : PySem.Challenge.rw_letterfall_s05_order.wellSaid = true := by decide +kernel
theorem Lf.pre_order (as : List WData) (hp : PySem.Challenge.rw_letterfall_s05_order.pre as = true) : ∃ ars : List L2.Ar, as = ars.map L2.Ar.wd ∧ (∀ a ∈ ars, a.ok) ∧ (∃ (side : Int) (ns : List Int), ars = [.i side, .l ns] ∧ ns.length ≤ 30000) ∧
    PySem.Challenge.rw_letterfall_s05_order.post as (.list ((match ars with | [.i side, .l ns] => Lf.ansOrder side ns | _ => []).map .int)) = true := by
  obtain ⟨⟨side, ns, u⟩, hw, ha, rfl⟩ := (OpenSpec.pre_iff Lf.said_order _).mp hp
  have hw' : Codec.withinAll [.int 0 4294967295, .list 0 30000 (.int 0 4294967295)] (side, ns, u) = true := hw
  simp only [Codec.withinAll, Codec.inPair, Codec.within, Codec.inList, Codec.inLen, Codec.inNat, Bool.and_eq_true, decide_eq_true_eq, List.all_eq_true, Codec.inInt] at hw'
  refine ⟨[.i side, .l ns], rfl, fun a ha => ?_, ⟨side, ns, rfl, hw'.2.1.1.2⟩, ?_⟩
  · rcases List.mem_cons.mp ha with rfl | ha
    · exact trivial
    · obtain rfl := List.mem_singleton.mp ha
      show List.length (α := Int) ns ≤ sizeLine
      have := hw'.2.1.1.2
      rw [sizeLine_eq]
      omega
  · refine (OpenSpec.post_iff Lf.said_order hw _ []).mpr ?_
    show WData.list ((Lf.ansOrder side ns).map .int) = WData.list ((PySh32.order side ns).map .int)
    rw [Lf.order_eq side ns hw'.1.1 fun n hn => (hw'.2.1.2 n hn).1]
set_option maxRecDepth 100000 in
set_option maxHeartbeats 0 in
theorem PySem.Challenge.cw_letterfall_s05_order_holds : PySem.Challenge.rw_letterfall_s05_order.Holds := by
  w_on
  k_headS
  case hw => exact ⟨[.int 0, .list []], by decide +kernel, by decide +kernel⟩
  k_fillS
  refine L2.walk_spec (r := PySem.Challenge.rw_letterfall_s05_order) (k := 8) (ps := ["side", "text"]) (sp := fun w K => Lf.spOrder K) (Pre := fun ars => ∃ (side : Int) (ns : List Int), ars = [.i side, .l ns] ∧ ns.length ≤ 30000) (ans := fun ars => match ars with | [.i side, .l ns] => Lf.ansOrder side ns | _ => []) rfl ⟨rfl, by decide, by decide⟩ (fun w h Y => PySem.W.kIn_of Y) Lf.pre_order ?zqF ?zqsp
  case zqF =>
    intro w mg fa h KX G hmg
    refine' (fun z => let ⟨fd, a, b⟩ := z; ⟨fd, a, fun base _ _ => b base⟩) (Lf.fin_order (ad := ⟨_, _⟩) ⟨?zqg0, ?zqg1, ?zqg2, ?zqg3, ?zqg4, ?zqg5, ?zqg6, ?zqg7, ?zqg8, ?zqg9, ?zqg10, ?zqg11, ?zqg12, ?zqg13, ?zqg14, ?zqg15, ?zqg16, ?zqg17, ?zqg18, ?zqg19, ?zqg20, ?zqg21, ?zqg22, ?zqg23, ?zqg24, ?zqg25, ?zqg26, ?zqg27, ?zqg28, ?zqg29, ?zqg30, ?zqg31, ?zqg32, ?zqg33, ?zqg34, ?zqg35, ?zqg36, ?zqg37, ?zqg38, ?zqg39, ?zqg40, ?zqg41, ?zqg42, ?zqg43, ?zqg44, ?zqg45, ?zqg46, ?zqg47⟩ hmg)
    (case zqg45 => dsimp only; refine' ⟨PySem.W.mg_of KX G ?zq45a, ⟨?zq45pg, ?zq45hd, ?zq45po, ?zq45sa⟩, ⟨?zq45fI, ?zq45fd, ⟨?zq45mk, ?zq45ini, ?zq45isf, ?zq45kc⟩, L2.fun_mk (st := Lf.s_Run___init__) ?zq45l ?zq45c ?zq45k, L2.Binds.all (fun us hl => match us, hl with | [_, _], _ => rfl)⟩, ?zq45na0, ?zq45na1⟩; (case zq45a => k_is); (case zq45pg => k_is); (case zq45hd => k_is); (case zq45po => k_is); (case zq45sa => k_is); (case zq45mk => k_is); (case zq45ini => k_is); (case zq45isf => k_is); (case zq45kc => k_is); (case zq45l => k_is); (case zq45c => k_is); (case zq45k => k_is); (case zq45na0 => unfold L2.NoAttr; k_is); (case zq45na1 => unfold L2.NoAttr; k_is))
    (case zqg46 => dsimp only; refine' ⟨PySem.W.mg_of KX G ?zq46a, ?zq46x, ?zq46fI, ?zq46fd, ⟨?zq46ga, ?zq46rd, ?zq46am, ?zq46kp⟩, L2.fun_mk (st := Lf.s_Refusal___init__) ?zq46l ?zq46c ?zq46k, L2.Binds.all (fun us hl => match us, hl with | [_, _], _ => rfl)⟩; (case zq46a => k_is); (case zq46x => kernel_rfl); (case zq46ga => k_is); (case zq46rd => k_is); (case zq46am => k_is); (case zq46kp => k_is); (case zq46l => k_is); (case zq46c => k_is); (case zq46k => k_is))
    (case zqg0 => refine' L2.hasFn_mk KX G ?zq0a ?zq0l ?zq0c ?zq0k (fun us hl => match us, hl with | [_], _ => rfl); (case zq0a => k_is); (case zq0l => k_is); (case zq0c => k_is); (case zq0k => k_is))
    (case zqg1 => refine' L2.hasFn_mk KX G ?zq1a ?zq1l ?zq1c ?zq1k (fun us hl => match us, hl with | [_], _ => rfl); (case zq1a => k_is); (case zq1l => k_is); (case zq1c => k_is); (case zq1k => k_is))
    (case zqg2 => refine' L2.hasFn_mk KX G ?zq2a ?zq2l ?zq2c ?zq2k (fun us hl => match us, hl with | [_], _ => rfl); (case zq2a => k_is); (case zq2l => k_is); (case zq2c => k_is); (case zq2k => k_is))
    (case zqg3 => refine' L2.hasFn_mk KX G ?zq3a ?zq3l ?zq3c ?zq3k (fun us hl => match us, hl with | [_], _ => rfl); (case zq3a => k_is); (case zq3l => k_is); (case zq3c => k_is); (case zq3k => k_is))
    (case zqg4 => refine' L2.hasFn_mk KX G ?zq4a ?zq4l ?zq4c ?zq4k (fun us hl => match us, hl with | [_], _ => rfl); (case zq4a => k_is); (case zq4l => k_is); (case zq4c => k_is); (case zq4k => k_is))
    (case zqg5 => refine' L2.hasFn_mk KX G ?zq5a ?zq5l ?zq5c ?zq5k (fun us hl => match us, hl with | [_], _ => rfl); (case zq5a => k_is); (case zq5l => k_is); (case zq5c => k_is); (case zq5k => k_is))
    (case zqg6 => refine' L2.hasFn_mk KX G ?zq6a ?zq6l ?zq6c ?zq6k (fun us hl => match us, hl with | [_, _], _ => rfl); (case zq6a => k_is); (case zq6l => k_is); (case zq6c => k_is); (case zq6k => k_is))
    (case zqg7 => refine' L2.hasFn_mk KX G ?zq7a ?zq7l ?zq7c ?zq7k (fun us hl => match us, hl with | [_, _, _], _ => rfl); (case zq7a => k_is); (case zq7l => k_is); (case zq7c => k_is); (case zq7k => k_is))
    (case zqg8 => refine' L2.hasFn_mk KX G ?zq8a ?zq8l ?zq8c ?zq8k (fun us hl => match us, hl with | [_, _], _ => rfl); (case zq8a => k_is); (case zq8l => k_is); (case zq8c => k_is); (case zq8k => k_is))
    (case zqg9 => refine' L2.hasFn_mk KX G ?zq9a ?zq9l ?zq9c ?zq9k (fun us hl => match us, hl with | [_, _], _ => rfl); (case zq9a => k_is); (case zq9l => k_is); (case zq9c => k_is); (case zq9k => k_is))
    (case zqg10 => refine' L2.hasFn_mk KX G ?zq10a ?zq10l ?zq10c ?zq10k (fun us hl => match us, hl with | [_], _ => rfl); (case zq10a => k_is); (case zq10l => k_is); (case zq10c => k_is); (case zq10k => k_is))
    (case zqg11 => refine' L2.hasFn_mk KX G ?zq11a ?zq11l ?zq11c ?zq11k (fun us hl => match us, hl with | [_, _], _ => rfl); (case zq11a => k_is); (case zq11l => k_is); (case zq11c => k_is); (case zq11k => k_is))
    (case zqg12 => refine' L2.hasFn_mk KX G ?zq12a ?zq12l ?zq12c ?zq12k (fun us hl => match us, hl with | [_, _], _ => rfl); (case zq12a => k_is); (case zq12l => k_is); (case zq12c => k_is); (case zq12k => k_is))
    (case zqg13 => refine' L2.hasFn_mk KX G ?zq13a ?zq13l ?zq13c ?zq13k (fun us hl => match us, hl with | [_, _], _ => rfl); (case zq13a => k_is); (case zq13l => k_is); (case zq13c => k_is); (case zq13k => k_is))
    (case zqg14 => refine' L2.hasFn_mk KX G ?zq14a ?zq14l ?zq14c ?zq14k (fun us hl => match us, hl with | [_, _], _ => rfl); (case zq14a => k_is); (case zq14l => k_is); (case zq14c => k_is); (case zq14k => k_is))
    (case zqg15 => refine' L2.hasFn_mk KX G ?zq15a ?zq15l ?zq15c ?zq15k (fun us hl => match us, hl with | [_, _], _ => rfl); (case zq15a => k_is); (case zq15l => k_is); (case zq15c => k_is); (case zq15k => k_is))
    (case zqg16 => refine' L2.hasFn_mk KX G ?zq16a ?zq16l ?zq16c ?zq16k (fun us hl => match us, hl with | [_, _, _], _ => rfl); (case zq16a => k_is); (case zq16l => k_is); (case zq16c => k_is); (case zq16k => k_is))
    (case zqg17 => refine' L2.hasFn_mk KX G ?zq17a ?zq17l ?zq17c ?zq17k (fun us hl => match us, hl with | [_], _ => rfl); (case zq17a => k_is); (case zq17l => k_is); (case zq17c => k_is); (case zq17k => k_is))
    (case zqg18 => refine' L2.hasFn_mk KX G ?zq18a ?zq18l ?zq18c ?zq18k (fun us hl => match us, hl with | [_, _], _ => rfl); (case zq18a => k_is); (case zq18l => k_is); (case zq18c => k_is); (case zq18k => k_is))
    (case zqg19 => refine' L2.hasFn_mk KX G ?zq19a ?zq19l ?zq19c ?zq19k (fun us hl => match us, hl with | [_, _, _], _ => rfl); (case zq19a => k_is); (case zq19l => k_is); (case zq19c => k_is); (case zq19k => k_is))
    (case zqg20 => refine' L2.hasFn_mk KX G ?zq20a ?zq20l ?zq20c ?zq20k (fun us hl => match us, hl with | [_], _ => rfl); (case zq20a => k_is); (case zq20l => k_is); (case zq20c => k_is); (case zq20k => k_is))
    (case zqg21 => refine' L2.hasFn_mk KX G ?zq21a ?zq21l ?zq21c ?zq21k (fun us hl => match us, hl with | [_, _], _ => rfl); (case zq21a => k_is); (case zq21l => k_is); (case zq21c => k_is); (case zq21k => k_is))
    (case zqg22 => exact ⟨_, PySem.W.mg_of KX G (by k_is)⟩)
    (case zqg23 => exact ⟨_, PySem.W.mg_of KX G (by k_is)⟩)
    (case zqg24 => exact ⟨_, PySem.W.mg_of KX G (by k_is)⟩)
    (case zqg25 => exact ⟨_, PySem.W.mg_of KX G (by k_is)⟩)
    (case zqg26 => refine' ⟨_, PySem.W.mg_of KX G ?zq26a, L2.tup2_of ?zq26b (by decide) (by decide)⟩; (case zq26a => k_is); (case zq26b => kernel_rfl))
    (case zqg27 => refine' ⟨_, PySem.W.mg_of KX G ?zq27a, L2.tup_of ?zq27b (by decide)⟩; (case zq27a => k_is); (case zq27b => kernel_rfl))
    (case zqg28 => refine' ⟨_, PySem.W.mg_of KX G ?zq28a, L2.tup_of ?zq28b (by decide)⟩; (case zq28a => k_is); (case zq28b => kernel_rfl))
    (case zqg29 => exact ⟨_, PySem.W.mg_of KX G (by k_is)⟩)
    (case zqg30 => exact ⟨_, PySem.W.mg_of KX G (by k_is)⟩)
    (case zqg31 => refine' ⟨_, PySem.W.mg_of KX G ?zq31a, L2.tup_of ?zq31b (by decide)⟩; (case zq31a => k_is); (case zq31b => kernel_rfl))
    (case zqg32 => refine' ⟨_, PySem.W.mg_of KX G ?zq32a, L2.tup_of ?zq32b (by decide)⟩; (case zq32a => k_is); (case zq32b => kernel_rfl))
    (case zqg33 => have zz := PySem.W.mg_of KX G (n := "HIGHER_ON_EVEN") (by k_is); exact ⟨_, zz, rfl, (by decide), (by decide), _, _, (by k_is), (.cons ⟨rfl, rfl, ⟨_, rfl⟩⟩ (.cons ⟨rfl, rfl, ⟨_, rfl⟩⟩ (.cons ⟨rfl, rfl, ⟨_, rfl⟩⟩ (.cons ⟨rfl, rfl, ⟨_, rfl⟩⟩ .nil))))⟩)
    (case zqg34 => have zz := PySem.W.mg_of KX G (n := "HIGHER_ON_ODD") (by k_is); exact ⟨_, zz, rfl, (by decide), (by decide), _, _, (by k_is), (.cons ⟨rfl, rfl, ⟨_, rfl⟩⟩ (.cons ⟨rfl, rfl, ⟨_, rfl⟩⟩ (.cons ⟨rfl, rfl, ⟨_, rfl⟩⟩ (.cons ⟨rfl, rfl, ⟨_, rfl⟩⟩ .nil))))⟩)
    (case zqg35 => exact ⟨_, PySem.W.mg_of KX G (by k_is)⟩)
    (case zqg36 => exact PySem.W.mg_none_of KX G (by k_is))
    (case zqg37 => exact PySem.W.mg_none_of KX G (by k_is))
    (case zqg38 => exact PySem.W.mg_none_of KX G (by k_is))
    (case zqg39 => exact PySem.W.mg_none_of KX G (by k_is))
    (case zqg40 => exact PySem.W.mg_none_of KX G (by k_is))
    (case zqg41 => exact PySem.W.mg_none_of KX G (by k_is))
    (case zqg42 => exact PySem.W.mg_none_of KX G (by k_is))
    (case zqg43 => exact PySem.W.mg_none_of KX G (by k_is))
    (case zqg44 => exact PySem.W.mg_none_of KX G (by k_is))
    (case zqg47 => dsimp only; refine' ⟨?zq47C, ?zq47fI, ?zq47fd, PySem.W.mg_of KX G ?zq47a, ⟨⟨?zq47xc, ?zq47sa⟩, ?zq47it, ?zq47fn, ?zq47kp⟩, L2.fun_mk (st := Lf.s_OutOfRange___init__) ?zq47l ?zq47c ?zq47k, L2.Binds.all (fun us hl => match us, hl with | [_], _ => rfl), ⟨?zq47xc2, ?zq47isa, ?zq47ga, ?zq47gn, ?zq47hd, ?zq47na⟩, ?zq47na2⟩; (case zq47a => k_is); (case zq47xc => kernel_rfl); (case zq47sa => k_is); (case zq47it => k_is); (case zq47fn => k_is); (case zq47kp => k_is); (case zq47l => k_is); (case zq47c => k_is); (case zq47k => k_is); (case zq47xc2 => kernel_rfl); (case zq47isa => kernel_rfl); (case zq47ga => k_is); (case zq47gn => k_is); (case zq47hd => k_is); (case zq47na => unfold L2.NoAttr; k_is); (case zq47na2 => unfold L2.NoAttr; k_is))
  case zqsp =>
    rintro w K H vs ars ⟨side, ns, rfl, hn⟩ hO hA
    cases hA with
    | int hA =>
      cases hA with
      | lst hS hr =>
        cases hr
        exact ⟨_, ns, side, rfl, hS, by omega, fun D H' h => ⟨D, rfl, h⟩⟩
#print axioms PySem.Challenge.cw_letterfall_s05_order_holds
