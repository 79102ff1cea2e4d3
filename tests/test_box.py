"""Promise 9: box."""

import time
import unittest

from letterfall.page import box
from tests.helper import FULL, HEAD, ONE, bytes_of, drawn, mixed, wrong
from tests.slow_cover import slow_box


class BoxCase(unittest.TestCase):
    def box(self, face, size=64, number=0, k=0):
        return box(size, number, k, bytes_of(face))

    def answers(self, outline, wanted, units=64, **others):
        self.assertEqual(self.box(drawn(outline, units), **others), [0] + wanted, (outline, others))


class Refusals(BoxCase):
    def test_ranges(self):
        for size in (1, 2, 65535, 65536):
            self.assertEqual(self.box(FULL, size=size)[0], 0)
        for size in (-1, 0, 65537, 4294967295):
            self.assertEqual(self.box(FULL, size=size), [-8])
        for k in (0, 1, 3, 4):
            self.assertEqual(self.box(FULL, k=k)[0], 0)
        for k in (-1, 5, 6, 4294967295):
            self.assertEqual(self.box(FULL, k=k), [-8])

    def test_letters(self):
        for number in range(5):
            self.assertEqual(len(self.box(FULL, number=number)), 5)
        for number in (5, 6, 4294967295):
            self.assertEqual(self.box(FULL, number=number), [-5])
        self.assertEqual(self.box(ONE, number=1), [-5])

    def test_wrong_fonts(self):
        for number in (0, 1, 4294967295):
            self.assertEqual(self.box("", number=number), wrong(1))
            self.assertEqual(self.box(HEAD, number=number), wrong(2))
            self.assertEqual(self.box(ONE + "\n", number=number), wrong(3))
            self.assertEqual(self.box(FULL + "wrong\n", number=number), wrong(len(FULL.splitlines()) + 1))

    def test_numbers_out_of_range_come_first(self):
        for face in ("", HEAD, ONE + "wrong\n", ONE):
            for number in (0, 1, 4294967295):
                self.assertEqual(self.box(face, size=0, number=number), [-8])
                self.assertEqual(self.box(face, size=65537, number=number), [-8])
                self.assertEqual(self.box(face, k=5, number=number), [-8])
            self.assertEqual(self.box(face, number=-1), [-8])
            self.assertEqual(self.box(face, number=4294967296), [-8])
        self.assertEqual(box(1, 9, 0, bytes_of("wrong\n") + [256]), [-8])


class Answers(BoxCase):
    def test_without_an_outline(self):
        self.assertEqual(self.box(ONE), [0, 0, 0, 0, 0])
        self.assertEqual(self.box(ONE, size=65536, k=4), [0, 0, 0, 0, 0])

    def test_one_move_alone(self):
        self.answers("move 0 0", [0, 0, 1, 1])
        self.answers("move 10 -10", [0, 0, 1, 1])
        self.answers("move 100 -200", [1, 3, 2, 4])
        self.answers("move 100 200", [1, -4, 2, -3])
        self.answers("move -100 200", [-2, -4, -1, -3])

    def test_several_points(self):
        self.answers("move 10 -10,line 200 -10,line 200 -300", [0, 0, 4, 5])
        self.answers("move 10 10,line 200 10,line 200 300", [0, -5, 4, 0])
        self.answers("move -10 10,line -200 -10,line -200 300", [-4, -5, 0, 1])

    def test_on_sides_and_corners(self):
        self.answers("move 64 -10", [1, 0, 2, 1])
        self.answers("move 63 -10", [0, 0, 1, 1])
        self.answers("move 10 -64", [0, 1, 1, 2])
        self.answers("move 10 -63", [0, 0, 1, 1])
        self.answers("move 64 -64", [1, 1, 2, 2])
        self.answers("move -64 64", [-1, -1, 0, 0])
        self.answers("move -65 65", [-2, -2, -1, -1])
        self.answers("move -63 63", [-1, -1, 0, 0])
        self.answers("move 0 1", [0, -1, 1, 0])
        self.answers("move -1 0", [-1, 0, 0, 1])
        self.answers("move 0 0,line 64 0,line 64 64,line 0 64", [0, -1, 2, 1])

    def test_exactly_beside_a_side(self):
        # 1/16384 of a step more or less.
        self.answers("move 16384 0", [1, 0, 2, 1], units=16384)
        self.answers("move 16383 0", [0, 0, 1, 1], units=16384)
        self.answers("move 16385 0", [1, 0, 2, 1], units=16384)
        self.answers("move 0 -16384", [0, 1, 1, 2], units=16384)
        self.answers("move 0 -16383", [0, 0, 1, 1], units=16384)
        self.answers("move 0 1", [0, -1, 1, 0], units=16384, size=1)
        self.answers("move -1 0", [-1, 0, 0, 1], units=16384, size=1)
        self.answers("move 3 -3", [1, 1, 2, 2], units=3)
        self.answers("move 2 -2", [0, 0, 1, 1], units=3)

    def test_sizes(self):
        self.answers("move 100 -100", [0, 0, 1, 1], size=40)
        self.answers("move 100 -100", [1, 1, 2, 2], size=41)
        self.answers("move 32767 -32768", [33553408, 33554432, 33553409, 33554433], units=1, size=65536)
        self.answers("move -32768 32767", [-33554432, -33553408, -33554431, -33553407], units=1, size=65536)

    def test_curves(self):
        # The bend's own point is 640 640: the curve goes half as far.
        bow = "move 0 0,curve 640 640 0 0"
        self.answers(bow, [0, 0, 1, 1], k=0)
        for k in (1, 2, 3, 4):
            self.answers(bow, [0, -5, 6, 1], k=k)

    def test_halvings(self):
        # From 0 0 bent towards 0 -1280 to 640 -640: the farthest point down lies at two thirds.
        curve = "move 0 0,curve 0 -1280 640 -640"
        self.answers(curve, [0, 0, 11, 11], k=0)
        self.answers(curve, [0, 0, 11, 13], k=1)
        self.answers(curve, [0, 0, 11, 14], k=2)
        self.answers(curve, [0, 0, 11, 14], k=3)
        for k in range(5):
            face = drawn("move 0 0,curve 1000 -1000 50 -3")
            self.assertEqual(self.box(face, k=k), slow_box(64, 0, k, face))

    def test_the_points_tell_of_k(self):
        # Farthest right at one third, 128 pixels; the points nearest to it are at 96, 120, 126 and 127 1/2 of them.
        face = drawn("move 0 0,curve 384 0 -384 -64")
        told = [self.box(face, size=4096, k=k) for k in range(5)]
        self.assertEqual([one[3] for one in told], [1, 97, 121, 127, 128])
        self.assertEqual(told, [slow_box(4096, 0, k, face) for k in range(5)])

    def test_several_rings(self):
        self.answers("move 0 0,line 70 0,move -700 900,move 5 -400", [-11, -15, 2, 7])
        self.answers("move 5 5,move 6 6", [0, -1, 1, 0])

    def test_the_letter_that_is_told(self):
        face = "font 64 0 0 0\nletter a 1\nmove 0 0\nletter b 1\nletter c 1\nmove 640 -640\n"
        self.assertEqual(self.box(face, number=0), [0, 0, 0, 1, 1])
        self.assertEqual(self.box(face, number=1), [0, 0, 0, 0, 0])
        self.assertEqual(self.box(face, number=2), [0, 10, 10, 11, 11])

    def test_many_mixed_outlines(self):
        for number, n in enumerate(mixed(list(range(-3000, 3000, 17)), 200, 12)):
            outline = f"move {n[0]} {n[1]},curve {n[2]} {n[3]} {n[4]} {n[5]},line {n[6]} {n[7]}"
            outline += f",curve {n[8]} {n[9]} {n[10]} {n[11]}"
            units = (64, 1, 1000, 16384)[number % 4]
            face = drawn(outline, units)
            self.assertEqual(self.box(face, size=1 + 3 * number, k=number % 5),
                             slow_box(1 + 3 * number, 0, number % 5, face), face)

    def test_big_ones_end_soon(self):
        lines = [f"curve {a} {b} {c} {d}" for a, b, c, d in mixed(list(range(-32768, 32768)), 1023, 4)]
        face = drawn(",".join(["move 0 0"] + lines))
        begun = time.monotonic()
        self.assertEqual(self.box(face, size=65536, k=4), slow_box(65536, 0, 4, face))
        self.assertLess(time.monotonic() - begun, 10)


class Kept(BoxCase):
    def test_what_is_handed_in_stays_and_nothing_is_kept(self):
        face = bytes_of(FULL)
        first = box(640, 2, 3, face)
        self.assertEqual(face, bytes_of(FULL))
        self.box(FULL, number=0)
        self.box("")
        self.box(ONE, k=5)
        self.assertEqual(box(640, 2, 3, face), first)

    def test_whole_numbers_in_a_list(self):
        for number in (0, 1, 2, 9):
            answer = self.box(FULL, number=number)
            self.assertIs(type(answer), list)
            self.assertEqual({type(number) for number in answer}, {int})


if __name__ == "__main__":
    unittest.main()
