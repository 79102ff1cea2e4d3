"""Levels once more, slowly: each character looks for all that it needs by itself."""

OPENING = ("LI", "RI", "FI")


def ends(names, begin):
    """The place of the PI of what opens at begin, or the paragraph's end."""
    depth = 0
    for place in range(begin + 1, len(names)):
        if names[place] in OPENING:
            depth += 1
        elif names[place] == "PI" and depth == 0:
            return place
        elif names[place] == "PI":
            depth -= 1
    return len(names)


def look(names, begin, end):
    place = begin
    while place < end:
        if names[place] in ("L", "R", "A"):
            return 0 if names[place] == "L" else 1
        place = ends(names, place) + 1 if names[place] in OPENING else place + 1
    return 0


def stack_at(names, place, side):
    """The stack with which a place is reached: (what opened it, level), the paragraph's own first."""
    stack = [(-1, side)]
    if names[place] == "B":
        return stack
    for opening in range(place):
        if names[opening] not in OPENING or ends(names, opening) <= place:
            continue
        odd = look(names, opening + 1, ends(names, opening)) if names[opening] == "FI" else int(names[opening] == "RI")
        level = min(n for n in range(stack[-1][1] + 1, 100) if n % 2 == odd)
        if level <= 60:
            stack.append((opening, level))
    return stack


def kinds_of(run, sos):
    kinds = list(run)
    for n, kind in enumerate(kinds):
        if kind == "M":
            kinds[n] = sos if n == 0 else "O" if run[n - 1] in OPENING + ("PI",) else kinds[n - 1]
    strong = [[kind for kind in [sos] + kinds[:n] if kind in ("L", "R", "A")][-1] for n in range(len(kinds))]
    for n, kind in enumerate(kinds):
        if kind == "N":
            kinds[n] = {"A": "AN", "L": "L", "R": "N"}[strong[n]]
    kinds = ["R" if kind == "A" else kind for kind in kinds]
    return [kinds[n] if kinds[n] in ("L", "R", "N", "AN") else between(kinds, n, sos) for n in range(len(kinds))]


def between(kinds, n, sos):
    sided = ("L", "R", "N", "AN")
    before = [kind for kind in [sos] + kinds[:n] if kind in sided][-1]
    behind = [kind for kind in kinds[n:] + [sos] if kind in sided][0]
    if (before == "L") == (behind == "L"):
        return "L" if before == "L" else "R"
    return sos


def paragraph_levels(names, side):
    if side == 2:
        side = look(names, 0, len(names))
    stacks = [stack_at(names, place, side) for place in range(len(names))]
    found = []
    for place, stack in enumerate(stacks):
        run = [other for other in range(len(names)) if stacks[other] == stack]
        level = stack[-1][1]
        kind = kinds_of([names[other] for other in run], "R" if level % 2 else "L")[run.index(place)]
        if level % 2 == 0:
            found.append(level + {"L": 0, "R": 1, "N": 2, "AN": 2}[kind])
        else:
            found.append(level + {"L": 1, "R": 0, "N": 1, "AN": 1}[kind])
    return found


def slow_levels(names, side):
    found = []
    begin = 0
    for place, name in enumerate(names, start=1):
        if name == "B" or place == len(names):
            found.extend(paragraph_levels(names[begin:place], side))
            begin = place
    return found
