"""Promise 8: cover."""

import time
import unittest
from fractions import Fraction

from letterfall.page import cover
from tests.helper import FULL, HEAD, ONE, bytes_of, drawn, mixed, wrong
from tests.slow_cover import slow_cover


def ring(*points):
    """move and line through points."""
    words = ["move"] + ["line"] * (len(points) - 1)
    return ",".join([f"{word} {x} {y}" for word, (x, y) in zip(words, points)])


def block(left, bottom, right, top):
    """A ring that goes round leftwards, y up."""
    return ring((left, bottom), (right, bottom), (right, top), (left, top))


class CoverCase(unittest.TestCase):
    def cover(self, face, size=64, number=0, x=0, y=0, k=0, left=0, top=0, wide=1, high=1):
        return cover(size, number, x, y, k, left, top, wide, high, bytes_of(face))

    def answers(self, outline, wanted, **others):
        self.assertEqual(self.cover(drawn(outline), **others), [0] + wanted, (outline, others))


class Refusals(CoverCase):
    RANGES = (("size", 1, 65536), ("x", -33554432, 33554432), ("y", -33554432, 33554432), ("k", 0, 4),
              ("left", -1024, 1024), ("top", -1024, 1024), ("wide", 1, 64), ("high", 1, 64))
    FAR = (-2147483648, 2147483647, 4294967295)

    def test_ranges(self):
        for name, least, most in self.RANGES:
            for number in (least, least + 1, most - 1, most):
                self.assertEqual(self.cover(FULL, **{name: number})[0], 0, (name, number))
            for number in (least - 1, most + 1) + self.FAR:
                self.assertEqual(self.cover(FULL, **{name: number}), [-8], (name, number))

    def test_letters(self):
        for number in range(5):
            self.assertEqual(len(self.cover(FULL, number=number)), 2)
        for number in (5, 6, 4096, 4294967295):
            self.assertEqual(self.cover(FULL, number=number), [-5])
        self.assertEqual(self.cover(ONE, number=1), [-5])

    def test_wrong_fonts(self):
        for number in (0, 1, 5, 4294967295):
            self.assertEqual(self.cover("", number=number), wrong(1))
            self.assertEqual(self.cover(HEAD, number=number), wrong(2))
            self.assertEqual(self.cover(ONE + "\n", number=number), wrong(3))
            self.assertEqual(self.cover(ONE + "line 0 0\n", number=number), wrong(3))
            self.assertEqual(self.cover(FULL + "wrong\n", number=number), wrong(len(FULL.splitlines()) + 1))

    def test_numbers_out_of_range_come_first(self):
        for name, least, most in self.RANGES:
            for number in (least - 1, most + 1):
                for face in ("", HEAD, ONE + "wrong\n", ONE):
                    for letter in (0, 1, 4294967295):
                        self.assertEqual(self.cover(face, **{name: number, "number": letter}), [-8])
        for number in (-1, 4294967296):
            self.assertEqual(self.cover("", number=number), [-8])
            self.assertEqual(self.cover(FULL, number=number), [-8])
        self.assertEqual(cover(1, 9, 0, 0, 0, 0, 0, 1, 1, bytes_of("wrong\n") + [256]), [-8])


class Squares(CoverCase):
    def test_without_an_outline(self):
        self.assertEqual(self.cover(ONE, wide=3, high=2), [0] + [0] * 6)
        self.answers("move 0 0", [0] * 4, left=-1, top=-1, wide=2, high=2)
        self.answers("move 0 0,move 64 64,move 0 64", [0] * 4, left=-1, top=-1, wide=2, high=2)
        self.answers("move 0 0,line 64 64", [0] * 4, left=-1, top=-1, wide=2, high=2)
        self.answers("move -9 -9,line 64 64,line 7 7,line 64 64", [0] * 4, left=-1, top=-1, wide=2, high=2)

    def test_one_pixel(self):
        self.answers(block(0, 0, 64, 64), [255], top=-1)
        self.answers(block(0, 0, 64, 64), [0, 0, 0, 0, 255, 0, 0, 0, 0], left=-1, top=-2, wide=3, high=3)
        self.answers(block(0, -64, 64, 0), [255])

    def test_parts_of_a_pixel(self):
        self.answers(block(0, 0, 32, 64), [128], top=-1)
        self.answers(block(32, 0, 64, 64), [128], top=-1)
        self.answers(block(0, 0, 64, 32), [128], top=-1)
        self.answers(block(0, 0, 16, 64), [64], top=-1)
        self.answers(block(0, 0, 48, 64), [191], top=-1)
        self.answers(block(10, 10, 26, 26), [16], top=-1)

    def test_less_than_one_510th(self):
        # Of 4096 parts of a pixel, 8 are less than one 510th and 9 are more.
        self.answers(block(0, 0, 8, 1), [0], top=-1)
        self.answers(block(0, 0, 9, 1), [1], top=-1)
        self.answers(block(5, 5, 6, 6), [0], top=-1)

    def test_halves_between_two_numbers(self):
        # 510 units a pixel: a strip that's n wide is n 510ths of it.
        for wide in range(0, 511):
            face = drawn(block(0, 0, wide, 510), units=510)
            self.assertEqual(self.cover(face, size=64, top=-1), [0, (wide + 1) // 2])

    def test_just_beside_a_half(self):
        # A pixel is 5100 by 5100 units.
        for units, number in ((5099, 0), (5100, 0), (5100 * 10 - 1, 0), (5100 * 10, 1), (5100 * 10 + 1, 1)):
            whole, rest = divmod(units, 5100)
            outline = block(0, 0, whole, 5100) + "," + block(100, 0, 100 + rest, 1)
            self.assertEqual(self.cover(drawn(outline, units=5100), top=-1), [0, number])

    def test_beyond_the_pixels_on_each_side(self):
        self.answers(block(-1000, -1000, 1000, 1000), [255] * 9, left=-1, top=-1, wide=3, high=3)
        self.answers(block(-1000, 0, 32, 64), [255, 128, 0], left=-1, top=-1, wide=3)
        self.answers(block(32, 0, 1000, 64), [0, 128, 255], left=-1, top=-1, wide=3)
        self.answers(block(0, 32, 64, 1000), [255, 255, 128], top=-3, high=3)
        self.answers(block(0, -1000, 64, -32), [0, 128, 255], top=-1, high=3)

    def test_pixels_beside_the_outline(self):
        for left, top in ((-1, -1), (1, -1), (0, 0), (0, -2), (-1024, -1), (1024, -1), (0, -1024), (0, 1024),
                          (1, 1), (-1, -2)):
            self.answers(block(0, 0, 64, 64), [0], left=left, top=top)

    def test_one_step_beyond_a_side(self):
        self.answers(block(0, -1, 64, 64), [255, 4], top=-1, high=2)
        self.answers(block(0, -64, 64, 1), [4, 255], top=-1, high=2)
        self.answers(block(-1, 0, 64, 64), [4, 255], left=-1, top=-1, wide=2)
        self.answers(block(0, 0, 65, 64), [255, 4], top=-1, wide=2)

    def test_one_step_beside_a_side_without_smaller_units(self):
        for outline, wanted in (
                (block(0, -1, 64, 64), [0, 255, 0, 0, 4, 0]), (block(0, 1, 64, 64), [0, 251, 0, 0, 0, 0]),
                (block(0, -64, 64, 1), [0, 4, 0, 0, 255, 0]), (block(0, -64, 64, -1), [0, 0, 0, 0, 251, 0]),
                (block(-1, 0, 64, 64), [4, 255, 0, 0, 0, 0]), (block(1, 0, 64, 64), [0, 251, 0, 0, 0, 0]),
                (block(0, 0, 65, 64), [0, 255, 4, 0, 0, 0]), (block(0, 0, 63, 64), [0, 251, 0, 0, 0, 0])):
            found = self.cover(drawn(outline, units=1), size=1, left=-1, top=-1, wide=3, high=2)
            self.assertEqual(found, [0] + wanted, outline)

    def test_row_by_row(self):
        outline = block(0, -64, 64, 0) + "," + block(128, -96, 192, -64)
        self.answers(outline, [255, 0, 0, 0, 0, 128], wide=3, high=2)

    def test_places(self):
        self.answers(block(0, 0, 64, 64), [64, 64, 64, 64], x=32, y=32, top=-1, wide=2, high=2)
        self.answers(block(0, 0, 64, 64), [16, 48, 48, 143], x=48, y=48, top=-1, wide=2, high=2)
        self.answers(block(0, 0, 64, 64), [255], x=-64, y=-64, left=-1, top=-2)
        self.answers(block(0, 0, 64, 64), [4, 251], x=-1, y=64, left=-1, wide=2)

    def test_far_places(self):
        self.answers(block(0, 0, 64, 64), [0], x=33554432, y=0, left=1024, top=-1)
        self.answers(block(0, 0, 64, 64), [255], x=65536, y=65600, left=1024, top=1024)
        self.answers(block(0, 0, 64, 64), [255], x=-65536, y=-65472, left=-1024, top=-1024)
        far = drawn(block(-32768, -32768, 32767, 32767), units=1)
        self.assertEqual(self.cover(far, size=65536, x=33554432, y=-33554432, wide=2, high=2), [0] + [255] * 4)
        near = drawn(block(-512, 0, 0, 512), units=1)
        self.assertEqual(self.cover(near, size=65536, x=33554432, y=33554432, wide=2), [0, 255, 255])
        self.assertEqual(self.cover(near, size=65536, x=33554431, y=33554432, left=-1, wide=2), [0, 4, 255])

    def test_sizes(self):
        for size in (1, 2, 63, 64, 65, 4096):
            share = min(size, 64) ** 2
            wanted = (510 * share + 4096) // 8192
            self.answers(block(0, -64, 64, 0), [wanted], size=size)
        for units in (1, 3, 64, 16384):
            face = drawn(block(0, -units, units, 0), units=units)
            self.assertEqual(self.cover(face, size=64, wide=2), [0, 255, 0])

    def test_the_letter_that_is_told(self):
        face = "font 64 0 0 0\nletter a 1\n" + block(0, -64, 64, 0).replace(",", "\n") + "\nletter b 1\n"
        face += block(0, -64, 32, 0).replace(",", "\n") + "\nletter c 1\n"
        for number, wanted in ((0, 255), (1, 128), (2, 0)):
            self.assertEqual(self.cover(face, number=number), [0, wanted])
        self.assertEqual(self.cover(face, number=3), [-5])


class Round(CoverCase):
    LEFTWARDS = block(0, 0, 64, 64)
    RIGHTWARDS = ring((0, 0), (0, 64), (64, 64), (64, 0))

    def test_both_ways(self):
        self.answers(self.LEFTWARDS, [255], top=-1)
        self.answers(self.RIGHTWARDS, [255], top=-1)
        self.answers(block(0, 0, 32, 64), [128], top=-1)
        self.answers(ring((0, 0), (0, 64), (32, 64), (32, 0)), [128], top=-1)

    def test_twice(self):
        self.answers(self.LEFTWARDS + "," + self.LEFTWARDS, [255], top=-1)
        self.answers(self.RIGHTWARDS + "," + self.RIGHTWARDS, [255], top=-1)
        self.answers(block(0, 0, 16, 64) + "," + block(0, 0, 16, 64), [128], top=-1)
        self.answers(",".join([block(0, 0, 16, 64)] * 5), [255], top=-1)
        twice = ring((0, 0), (16, 0), (16, 64), (0, 64), (0, 0), (16, 0), (16, 64), (0, 64))
        self.answers(twice, [128], top=-1)

    def test_against_each_other(self):
        self.answers(self.LEFTWARDS + "," + self.RIGHTWARDS, [0], top=-1)
        hole = ring((16, 0), (16, 64), (48, 64), (48, 0))
        self.answers(self.LEFTWARDS + "," + hole, [128], top=-1)
        self.answers(hole + "," + self.LEFTWARDS, [128], top=-1)
        # The mean's size, not the sizes' mean: two sides against each other take each other away.
        self.answers(block(0, 0, 32, 64) + "," + ring((32, 0), (32, 64), (64, 64), (64, 0)), [0], top=-1)
        self.answers(block(0, 0, 48, 64) + "," + ring((48, 0), (48, 64), (64, 64), (64, 0)), [128], top=-1)
        # And 1 at most of the mean, not of each place.
        self.answers(block(0, 0, 32, 64) + "," + block(0, 0, 32, 64), [255], top=-1)

    def test_a_ring_that_crosses_itself(self):
        self.answers(ring((0, 0), (64, 64), (64, 0), (0, 64)), [0], top=-1)
        self.answers(ring((0, 0), (64, 64), (64, 0), (0, 64)), [0, 0], top=-1, wide=2)
        self.answers(ring((0, 0), (128, 64), (128, 0), (0, 64)), [128, 128], top=-1, wide=2)

    def test_the_end_leads_to_the_beginning(self):
        self.answers(ring((0, 0), (64, 0), (64, 64)), [128], top=-1)
        self.answers(ring((0, 0), (64, 0), (64, 64), (0, 64)), [255], top=-1)
        self.answers(ring((0, 0), (64, 0), (64, 64), (0, 64), (0, 0)), [255], top=-1)
        self.answers("move 0 0,line 64 0,line 64 64,move 0 0,line 0 -64,line 64 -64", [128, 128], top=-1, high=2)

    def test_several_rings(self):
        outline = block(0, 0, 64, 64) + "," + block(128, 0, 160, 64) + ",move 5 5," + block(64, 0, 80, 64)
        self.answers(outline, [255, 64, 128], top=-1, wide=3)


class Slanted(CoverCase):
    def test_a_diagonal(self):
        self.answers(ring((0, 0), (192, 0), (0, 192)), [128, 0, 0, 255, 128, 0, 255, 255, 128], top=-3, wide=3, high=3)
        self.answers(ring((0, 0), (192, 0), (192, 192)), [0, 0, 128, 0, 128, 255, 128, 255, 255], top=-3, wide=3,
                     high=3)

    def test_a_flat_side(self):
        # From 0 at the left to 64 at the right over four pixels: 1/8, 3/8, 5/8, 7/8.
        self.answers(ring((0, 0), (256, 0), (256, 64)), [32, 96, 159, 223], top=-1, wide=4)
        self.answers(ring((0, 0), (256, 0), (0, 64)), [223, 159, 96, 32], top=-1, wide=4)

    def test_a_steep_side(self):
        self.answers(ring((0, 0), (64, 256), (0, 256)), [223, 159, 96, 32], top=-4, high=4)
        self.answers(ring((0, 0), (64, 0), (64, 256)), [32, 96, 159, 223], top=-4, high=4)

    def test_thirds(self):
        # A triangle of a third of the height: 1/18 of two pixels and more.
        self.answers(ring((0, 0), (192, 0), (192, 64)), [43, 128, 213], top=-1, wide=3)
        self.answers(ring((0, 0), (64, 0), (64, 192)), [43, 128, 213], top=-3, high=3)

    def test_many_mixed_rings(self):
        numbers = list(range(-300, 500, 7))
        for number, coordinates in enumerate(mixed(numbers, 60, 14)):
            points = list(zip(coordinates[0::2], coordinates[1::2]))
            outline = ring(*points[:4]) + "," + ring(*points[4:])
            units = (64, 63, 1000, 7)[number % 4]
            face = drawn(outline, units=units)
            told = (units * (1 + number % 3), 0, number - 30, 3 * number, 0, -3, -4, 7, 6)
            self.assertEqual(cover(*told, bytes_of(face)), slow_cover(*told, face), face)

    def test_long_slanted_sides(self):
        for number, coordinates in enumerate(mixed(list(range(-32768, 32768, 997)), 30, 8)):
            face = drawn(ring(*zip(coordinates[0::2], coordinates[1::2])), units=1 + number * 500)
            told = (65536 - number * 1000, 0, 5 * number, -7 * number, number % 5, -2, -2, 4, 4)
            self.assertEqual(cover(*told, bytes_of(face)), slow_cover(*told, face), face)


def turned_all_ways(rings):
    """The rings in a pixel from 0 0 to 64 64, turned and mirrored in all ways, leftwards and rightwards."""
    for swapped in (False, True):
        for across in (False, True):
            for up in (False, True):
                found = []
                for points in rings:
                    points = [(y, x) if swapped else (x, y) for x, y in points]
                    found.append([(64 - x if across else x, 64 - y if up else y) for x, y in points])
                yield found
                yield [points[::-1] for points in found]


class Exactly(CoverCase):
    # Triangles of which a slanted side is cut at 64 0: twice the area before it is 9 high / wide, so that
    # each of these lists comes to whole numbers, but none of its triangles does.
    LISTS = (
        ((4, 1), (4, 3)),
        ((5, 1), (5, 4)),
        ((5, 2), (5, 3), (7, 1), (7, 6)),
        ((10, 1), (10, 9), (8, 3), (8, 5), (4, 1), (4, 3)),
        ((11, 5), (11, 6), (11, 1), (11, 10), (7, 2), (7, 5), (10, 3), (10, 7)),
        ((6, 1), (4, 1), (4, 1)),
        ((6, 1), (4, 5), (8, 2)),
        ((5, 1), (5, 1), (5, 3)),
        ((7, 1), (7, 2), (7, 4), (11, 2), (11, 3), (11, 6)),
    )

    def rings_of(self, triangles, twice):
        """The triangles, and what twice the area lacks without them."""
        rings = []
        exact = Fraction(0)
        for wide, high in triangles:
            rings.append([(61, 10), (61 + wide, 10), (61 + wide, 10 + high)])
            exact += Fraction(9 * high, wide)
        self.assertEqual(exact.denominator, 1)
        rest = twice - int(exact)
        rings.append([(0, 0), (32, 0), (32, rest // 64), (0, rest // 64)])
        rings.append([(0, 0), (rest % 64, 0), (rest % 64, 1)])
        return rings

    def test_at_one_half_and_just_below(self):
        for triangles in self.LISTS:
            for twice, wanted in ((4095, 127), (4096, 128)):
                for rings in turned_all_ways(self.rings_of(triangles, twice)):
                    outline = ",".join([ring(*points) for points in rings])
                    self.answers(outline, [wanted], top=-1)
                    self.answers(outline, [wanted], k=1, top=-1)
                    # A unit is a step here too, but the only one.
                    self.assertEqual(self.cover(drawn(outline, units=1), size=1, top=-1), [0, wanted])
                    found = self.cover(drawn(outline), left=-1, top=-2, wide=3, high=3)
                    self.assertEqual(found[5], wanted)


class Curves(CoverCase):
    # A curve from 0 0 to 128 0 that's bent towards 64 128: below it lie two thirds of 64 times 128.
    BOW = "move 0 0,curve 64 128 128 0"

    def test_halvings(self):
        # With 2^k ways, the area is 128 * 128 / 3 * (1 - 4^-k); no halving leaves nothing.
        wanted = {0: 0, 1: 128, 2: 159, 3: 167, 4: 169}
        for k, number in wanted.items():
            self.answers(self.BOW, [number, number], k=k, top=-1, wide=2)

    def test_points_on_the_curve(self):
        # Halved once, it is two ways over 64 64.
        face = drawn(self.BOW)
        same = drawn(ring((0, 0), (64, 64), (128, 0)))
        for left in (0, 1):
            self.assertEqual(self.cover(face, k=1, left=left, top=-1), self.cover(same, left=left, top=-1))
        # Halved twice, over 32 48, 64 64, 96 48.
        same = drawn(ring((0, 0), (32, 48), (64, 64), (96, 48), (128, 0)))
        for left in (0, 1):
            self.assertEqual(self.cover(face, k=2, left=left, top=-1), self.cover(same, left=left, top=-1))

    def test_lines_do_not_depend_on_k(self):
        face = drawn(ring((3, 5), (190, 77), (50, 180)))
        first = self.cover(face, top=-3, wide=3, high=3)
        for k in range(5):
            self.assertEqual(self.cover(face, k=k, top=-3, wide=3, high=3), first)

    def test_a_curve_behind_a_curve(self):
        outline = "move 0 0,curve 64 0 64 64,curve 64 128 0 128,line -64 128,curve -128 64 -64 0"
        for k in range(5):
            face = drawn(outline)
            told = (64, 0, 0, 0, k, -3, -3, 6, 4)
            self.assertEqual(cover(*told, bytes_of(face)), slow_cover(*told, face))

    def test_many_mixed_curves(self):
        numbers = list(range(-300, 500, 11))
        for number, n in enumerate(mixed(numbers, 40, 20)):
            outline = f"move {n[0]} {n[1]},curve {n[2]} {n[3]} {n[4]} {n[5]},line {n[6]} {n[7]}"
            outline += f",curve {n[8]} {n[9]} {n[10]} {n[11]},move {n[12]} {n[13]},curve {n[14]} {n[15]} {n[16]} {n[17]}"
            units = (64, 50, 999)[number % 3]
            face = drawn(outline, units=units)
            told = (units + number, 0, -number, number, number % 5, -3, -4, 6, 6)
            self.assertEqual(cover(*told, bytes_of(face)), slow_cover(*told, face), face)


class Big(CoverCase):
    def ends_soon(self, outline, **others):
        face = drawn(outline)
        self.assertEqual(len(outline.split(",")), 1024)
        self.assertLess(len(face), 100000)
        told = {"k": 4, "top": -64, "wide": 64, "high": 64}
        told.update(others)
        begun = time.monotonic()
        found = self.cover(face, **told)
        self.assertLess(time.monotonic() - begun, 20)
        self.assertEqual(len(found), 4097)
        self.assertTrue(all(0 <= number <= 255 for number in found))

    def test_lines(self):
        lines = [f"line {x} {y}" for x, y in mixed(list(range(4096)), 1023, 2)]
        self.ends_soon(",".join(["move 0 0"] + lines))

    def test_curves(self):
        lines = [f"curve {a} {b} {c} {d}" for a, b, c, d in mixed(list(range(4096)), 1023, 4)]
        self.ends_soon(",".join(["move 0 0"] + lines))

    def test_far_curves(self):
        lines = [f"curve {a} {b} {c} {d}" for a, b, c, d in mixed(list(range(-32768, 32768)), 1023, 4)]
        self.ends_soon(",".join(["move 0 0"] + lines), size=65536)
        self.ends_soon(",".join(["move 0 0"] + lines), size=4, x=2048, y=2048, top=0)

    def test_curves_through_the_same_pixels(self):
        lines = [f"curve {a} {6000 + b} {(4090 + c) * (place % 2)} {d}"
                 for place, (a, b, c, d) in enumerate(mixed(list(range(100)), 1023, 4))]
        self.ends_soon(",".join(["move 0 0"] + lines))

    def test_sides_through_the_same_pixels(self):
        lines = [f"line {a % 16} {32000 - b * 3 if place % 2 else b * 3 - 32000}"
                 for place, (a, b) in enumerate(mixed(list(range(1000)), 1023, 2))]
        self.ends_soon(",".join(["move 0 0"] + lines))


class Kept(CoverCase):
    def test_what_is_handed_in_stays_and_nothing_is_kept(self):
        text = drawn(Curves.BOW + "," + block(3, 3, 70, 60))
        face = bytes_of(text)
        told = (64, 0, 3, 4, 3, -1, -2, 4, 4)
        first = cover(*told, face)
        self.assertEqual(face, bytes_of(text))
        self.cover(FULL, number=2)
        self.cover("")
        self.cover(drawn(block(0, 0, 64, 64)), k=5)
        self.assertEqual(cover(*told, face), first)

    def test_whole_numbers_in_a_list(self):
        for number in (0, 1, 2, 9):
            answer = self.cover(FULL, number=number, left=-1, top=-1, wide=2, high=2)
            self.assertIs(type(answer), list)
            self.assertEqual({type(number) for number in answer}, {int})


if __name__ == "__main__":
    unittest.main()
