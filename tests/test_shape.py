"""Promise 6: shape."""

import time
import unittest

from letterfall.page import levels, shape
from tests.helper import HEAD, ONE, bytes_of, mixed, names, wrong
from tests.slow_shape import slow_shape

# At size 100 a unit is a step. Letters: none 0, a 1, b 2, c 3, alef 4, bet 5, gimel 6, acute 7, dot 8, ab 9,
# abc 10, opening 11, closing 12, both 13, hat 14.
FACE = """font 100 80 20 9
letter none 10
letter a 20
letter b 30
letter c 40
letter alef 50
letter bet 60
letter gimel 70
letter acute 7
letter dot 8
letter ab 45
letter abc 85
letter opening 11
letter closing 12
letter both 99
letter hat 5
char 97 a
char 98 b
char 99 c
char 1488 alef
char 1489 bet
char 1490 gimel
char 769 acute
char 775 dot
char 40 opening
char 41 closing
char 770 hat
mark acute 1 3 50
mark dot 2 4 -5
mark hat 1 1 1
base a 1 10 60
base a 2 11 -10
base alef 1 25 70
base ab 2 20 -20
base acute 1 0 0
base abc 1 40 90
join a b ab
join ab c abc
join alef bet both
pair a a -4
pair a c 6
pair c a -7
pair alef gimel 5
pair gimel alef 9
pair a alef 1000
pair alef a 2000
"""
A, B, C, ALEF, BET, GIMEL, ACUTE, DOT, HAT = 97, 98, 99, 1488, 1489, 1490, 769, 775, 770
LI, RI, FI, PI = 8294, 8295, 8296, 8297


class ShapeCase(unittest.TestCase):
    def shape(self, text, side=0, start=0, to=None, size=100, face=FACE):
        return shape(size, side, start, len(text) if to is None else to, bytes_of(face), text)

    def answers(self, text, wanted, x, side=0, start=0, to=None, size=100, face=FACE):
        """wanted: the six numbers of each letter."""
        found = self.shape(text, side, start, to, size, face)
        self.assertEqual(found, [len(wanted)] + [number for row in wanted for number in row] + [x])


class Refusals(ShapeCase):
    def test_sizes(self):
        for size in (1, 2, 65535, 65536):
            self.assertEqual(self.shape([A], size=size)[0], 1)
        for size in (-1, 0, 65537, 4294967295):
            self.assertEqual(self.shape([A], size=size), [-8])
            self.assertEqual(self.shape([], size=size), [-8])

    def test_sides(self):
        for side in (0, 1, 2):
            self.assertEqual(self.shape([A], side=side)[0], 1)
        for side in (-1, 3, 4294967295):
            self.assertEqual(self.shape([A], side=side), [-8])
            self.assertEqual(self.shape([], side=side), [-8])

    def test_stretches(self):
        text = [A, B, C]
        for start in range(4):
            for to in range(start, 4):
                self.assertGreaterEqual(self.shape(text, start=start, to=to)[0], 0)
        for start, to in ((1, 0), (3, 2), (3, 0), (4, 3), (4294967295, 3), (0, 4), (4, 4), (0, 4294967295), (-1, 2)):
            self.assertEqual(self.shape(text, start=start, to=to), [-8], (start, to))
        self.assertEqual(self.shape([], start=0, to=1), [-8])
        self.assertEqual(self.shape([], start=1, to=1), [-8])

    def test_one_paragraph(self):
        text = [A, 10, B, 10, 10, C]
        right = [(0, 1), (0, 2), (1, 2), (2, 3), (2, 4), (3, 4), (4, 5), (5, 6)]
        right += [(place, place) for place in range(7)]
        for start in range(7):
            for to in range(start, 7):
                answer = self.shape(text, start=start, to=to)
                if (start, to) in right:
                    self.assertGreaterEqual(answer[0], 0, (start, to))
                else:
                    self.assertEqual(answer, [-8], (start, to))

    def test_texts(self):
        for code in (-1, 55296, 57343, 1114112, 4294967295):
            self.assertEqual(self.shape([A, code]), [-8])
            self.assertEqual(self.shape([A, code], to=1), [-8])
            self.assertEqual(self.shape([A, 10, code], to=0), [-8])
        for code in (0, 55295, 57344, 1114111):
            self.assertEqual(self.shape([A, code])[0], 2)
        self.assertEqual(self.shape([A] * 65537, to=1), [-8])

    def test_wrong_fonts(self):
        self.assertEqual(self.shape([A], face=""), wrong(1))
        self.assertEqual(self.shape([A], face=HEAD), wrong(2))
        self.assertEqual(self.shape([], face=ONE + "wrong\n"), wrong(3))
        self.assertEqual(self.shape([A], to=0, face=FACE + "letter a 1\n"), wrong(len(FACE.splitlines()) + 1))

    def test_numbers_out_of_range_come_first(self):
        for face in ("", HEAD, ONE + "wrong\n"):
            self.assertEqual(self.shape([A], size=0, face=face), [-8])
            self.assertEqual(self.shape([A], size=65537, face=face), [-8])
            self.assertEqual(self.shape([A], side=3, face=face), [-8])
            self.assertEqual(self.shape([A], start=1, to=0, face=face), [-8])
            self.assertEqual(self.shape([A], to=2, face=face), [-8])
            self.assertEqual(self.shape([10, 10], face=face), [-8])
            self.assertEqual(self.shape([55296], face=face), [-8])
            self.assertEqual(shape(1, 0, 0, 1, bytes_of(face) + [256], [A]), [-8])


class Letters(ShapeCase):
    def test_an_empty_stretch(self):
        self.answers([], [], 0)
        for place in range(4):
            for side in (0, 1, 2):
                self.answers([A, ALEF, 10], [], 0, side, place, place)

    def test_letters_of_a_line(self):
        self.answers([A], [(1, 0, 0, 0, 20, 0)], 20)
        self.answers([B, A], [(2, 0, 0, 0, 30, 0), (1, 1, 30, 0, 20, 0)], 50)
        self.answers([B, A], [(2, 0, 0, 0, 30, 2), (1, 1, 30, 0, 20, 2)], 50, side=1)
        self.answers([BET, GIMEL], [(6, 1, 0, 0, 70, 1), (5, 0, 70, 0, 60, 1)], 130)
        self.answers([B, BET, GIMEL, B],
                     [(2, 0, 0, 0, 30, 0), (6, 2, 30, 0, 70, 1), (5, 1, 100, 0, 60, 1), (2, 3, 160, 0, 30, 0)], 190)
        self.answers([B, B, BET],
                     [(5, 2, 0, 0, 60, 1), (2, 0, 60, 0, 30, 2), (2, 1, 90, 0, 30, 2)], 120, side=1)

    def test_characters_that_the_font_lacks(self):
        self.answers([120, A, 121], [(0, 0, 0, 0, 10, 0), (1, 1, 10, 0, 20, 0), (0, 2, 30, 0, 10, 0)], 40)
        self.answers([1491], [(0, 0, 0, 0, 10, 1)], 10)
        self.answers([32], [(0, 0, 0, 0, 10, 0)], 10)

    def test_exchanged_signs(self):
        self.answers([40, 41], [(11, 0, 0, 0, 11, 0), (12, 1, 11, 0, 12, 0)], 23)
        self.answers([40, 41], [(11, 1, 0, 0, 11, 1), (12, 0, 11, 0, 12, 1)], 23, side=1)

    def test_each_of_the_exchanged_signs(self):
        signs = (40, 41, 60, 62, 91, 93, 123, 125)
        face = HEAD + "letter none 0\n" + "".join([f"letter s{code} 0\nchar {code} s{code}\n" for code in signs])
        for number, code in enumerate(signs):
            other = number + 1 if number % 2 == 0 else number - 1
            self.answers([code], [(number + 1, 0, 0, 0, 0, 0)], 0, face=face)
            self.answers([code], [(other + 1, 0, 0, 0, 0, 1)], 0, side=1, face=face)
            self.answers([RI, code, PI], [(other + 1, 1, 0, 0, 0, 1)], 0, side=0, face=face)
            self.answers([LI, code, PI], [(number + 1, 1, 0, 0, 0, 2)], 0, side=1, face=face)

    def test_no_other_signs_are_exchanged(self):
        for code in (39, 42, 47, 59, 61, 63, 90, 92, 94, 122, 124, 126, 171, 187, 8216, 8217):
            face = HEAD + f"letter none 0\nletter s 0\nchar {code} s\n"
            self.assertEqual(self.shape([code], side=1, face=face)[1], 1)

    def test_one_of_two_exchanged_is_lacking(self):
        face = HEAD + "letter none 0\nletter s 0\nchar 40 s\n"
        self.answers([40, 41], [(1, 0, 0, 0, 0, 0), (0, 1, 0, 0, 0, 0)], 0, face=face)
        self.answers([40, 41], [(1, 1, 0, 0, 0, 1), (0, 0, 0, 0, 0, 1)], 0, side=1, face=face)

    def test_characters_without_letters(self):
        face = FACE + "".join([f"char {code} c\n" for code in (10, LI, RI, FI, PI)])
        for each in (FACE, face):
            for code in (LI, RI, FI, PI, 10):
                self.answers([code], [], 0, face=each)
                self.answers([code], [], 0, side=1, face=each)
            self.answers([B, 10], [(2, 0, 0, 0, 30, 0)], 30, face=each)
            self.answers([LI, B, PI, 10], [(2, 1, 0, 0, 30, 2)], 30, face=each)

    def test_they_are_no_hindrance_between_letters_of_one_level(self):
        self.answers([A, PI, B], [(9, 0, 0, 0, 45, 0)], 45)
        self.answers([A, LI, PI, A], [(1, 0, 0, 0, 20, 0), (1, 3, 16, 0, 20, 0)], 36)
        self.answers([A, PI, ACUTE], [(1, 0, 0, 0, 20, 0), (7, 2, 7, 10, 0, 0)], 20)
        self.answers([ALEF, PI, BET], [(13, 0, 0, 0, 99, 1)], 99)
        deep = [LI] * 30
        self.answers(deep + [A, LI, B], [(9, 30, 0, 0, 45, 60)], 45)

    def test_places_of_the_whole_text(self):
        text = [A, 10, C, B, A, 10, A]
        self.answers(text, [(3, 2, 0, 0, 40, 0), (2, 3, 40, 0, 30, 0), (1, 4, 70, 0, 20, 0)], 90, start=2, to=6)
        self.answers(text, [(2, 3, 0, 0, 30, 0)], 30, start=3, to=4)
        self.answers(text, [(1, 6, 0, 0, 20, 0)], 20, start=6)

    def test_levels_are_those_of_the_whole_paragraph(self):
        self.answers([ALEF, 40, ALEF], [(12, 1, 0, 0, 12, 1)], 12, start=1, to=2)
        self.answers([ALEF, 40, A], [(11, 1, 0, 0, 11, 0)], 11, start=1, to=2)
        self.answers([RI, B, ALEF, PI], [(2, 1, 0, 0, 30, 2)], 30, start=1, to=2)
        self.answers([ALEF, 10, 40, A], [(11, 2, 0, 0, 11, 0)], 11, side=2, start=2, to=3)
        self.answers([A, 10, ALEF, 40], [(12, 3, 0, 0, 12, 1)], 12, side=2, start=3, to=4)


class Joins(ShapeCase):
    def test_joins(self):
        self.answers([A, B], [(9, 0, 0, 0, 45, 0)], 45)
        self.answers([B, A], [(2, 0, 0, 0, 30, 0), (1, 1, 30, 0, 20, 0)], 50)
        self.answers([B, A, B], [(2, 0, 0, 0, 30, 0), (9, 1, 30, 0, 45, 0)], 75)
        self.answers([A, B, A, B], [(9, 0, 0, 0, 45, 0), (9, 2, 45, 0, 45, 0)], 90)

    def test_one_behind_another(self):
        self.answers([A, B, C], [(10, 0, 0, 0, 85, 0)], 85)
        self.answers([A, B, C, B], [(10, 0, 0, 0, 85, 0), (2, 3, 85, 0, 30, 0)], 115)

    def test_what_is_joined_is_not_looked_at_with_what_is_before(self):
        face = FACE + "letter late 1\njoin c ab late\n"
        self.answers([C, A, B], [(3, 0, 0, 0, 40, 0), (9, 1, 40, 0, 45, 0)], 85, face=face)

    def test_a_letter_joined_with_itself_again_and_again(self):
        face = HEAD + "letter a 500\nchar 97 a\njoin a a a\n"
        self.answers([97] * 1000, [(0, 0, 0, 0, 50, 0)], 50, face=face)

    def test_at_odd_levels_in_the_order_of_the_text(self):
        self.answers([ALEF, BET], [(13, 0, 0, 0, 99, 1)], 99)
        self.answers([BET, ALEF], [(4, 1, 0, 0, 50, 1), (5, 0, 50, 0, 60, 1)], 110)
        self.answers([GIMEL, ALEF, BET], [(13, 1, 0, 0, 99, 1), (6, 0, 99, 0, 70, 1)], 169)

    def test_not_between_unlike_levels(self):
        face = FACE + "join a alef c\njoin alef a c\n"
        self.answers([A, ALEF], [(1, 0, 0, 0, 20, 0), (4, 1, 20, 0, 50, 1)], 70, face=face)
        self.answers([ALEF, A], [(4, 0, 0, 0, 50, 1), (1, 1, 50, 0, 20, 0)], 70, face=face)

    def test_letters_that_stand_for_lacking_ones_are_joined_too(self):
        face = FACE + "join none none c\n"
        self.answers([120, 121], [(3, 0, 0, 0, 40, 0)], 40, face=face)

    def test_not_beyond_the_stretch(self):
        self.answers([A, B], [(1, 0, 0, 0, 20, 0)], 20, to=1)
        self.answers([A, B], [(2, 1, 0, 0, 30, 0)], 30, start=1)


class Marks(ShapeCase):
    def test_on_a_base(self):
        self.answers([A, ACUTE], [(1, 0, 0, 0, 20, 0), (7, 1, 7, 10, 0, 0)], 20)
        self.answers([A, DOT], [(1, 0, 0, 0, 20, 0), (8, 1, 7, -5, 0, 0)], 20)
        self.answers([B, A, ACUTE, B],
                     [(2, 0, 0, 0, 30, 0), (1, 1, 30, 0, 20, 0), (7, 2, 37, 10, 0, 0), (2, 3, 50, 0, 30, 0)], 80)

    def test_several_on_one(self):
        self.answers([A, ACUTE, DOT, HAT, ACUTE],
                     [(1, 0, 0, 0, 20, 0), (7, 1, 7, 10, 0, 0), (8, 2, 7, -5, 0, 0), (14, 3, 9, 59, 0, 0),
                      (7, 4, 7, 10, 0, 0)], 20)

    def test_at_odd_levels_behind_theirs(self):
        self.answers([ALEF, ACUTE, HAT, GIMEL],
                     [(6, 3, 0, 0, 70, 1), (4, 0, 75, 0, 50, 1), (7, 1, 97, 20, 0, 1), (14, 2, 99, 69, 0, 1)], 125)

    def test_without_a_base_of_its_kind(self):
        self.answers([B, ACUTE], [(2, 0, 0, 0, 30, 0), (7, 1, 30, 0, 7, 0)], 37)
        self.answers([ALEF, DOT], [(8, 1, 0, 0, 8, 1), (4, 0, 8, 0, 50, 1)], 58)

    def test_behind_one_that_is_not_placed(self):
        self.answers([A, ACUTE, B, ACUTE, DOT],
                     [(1, 0, 0, 0, 20, 0), (7, 1, 7, 10, 0, 0), (2, 2, 20, 0, 30, 0), (7, 3, 50, 0, 7, 0),
                      (8, 4, 57, 0, 8, 0)], 65)
        self.answers([ALEF, DOT, ACUTE],
                     [(7, 2, 0, 0, 7, 1), (8, 1, 7, 0, 8, 1), (4, 0, 15, 0, 50, 1)], 65)

    def test_a_mark_is_no_letter_to_sit_on(self):
        # acute has a base of kind 1, but is a mark itself.
        self.answers([ACUTE, ACUTE], [(7, 0, 0, 0, 7, 0), (7, 1, 7, 0, 7, 0)], 14)
        self.answers([B, ACUTE, HAT], [(2, 0, 0, 0, 30, 0), (7, 1, 30, 0, 7, 0), (14, 2, 37, 0, 5, 0)], 42)

    def test_at_a_beginning(self):
        self.answers([ACUTE, A], [(7, 0, 0, 0, 7, 0), (1, 1, 7, 0, 20, 0)], 27)
        self.answers([A, ACUTE], [(7, 1, 0, 0, 7, 0)], 7, start=1)
        # The mark behind PI is read as the paragraph is, and begins a stretch.
        self.answers([LI, A, PI, ACUTE], [(1, 1, 0, 0, 20, 2), (7, 3, 20, 0, 7, 0)], 27)

    def test_a_base_before_the_placed_ones(self):
        self.answers([A, DOT, ACUTE], [(1, 0, 0, 0, 20, 0), (8, 1, 7, -5, 0, 0), (7, 2, 7, 10, 0, 0)], 20)

    def test_joined_letters(self):
        self.answers([A, B, DOT], [(9, 0, 0, 0, 45, 0), (8, 2, 16, -15, 0, 0)], 45)
        self.answers([A, B, ACUTE], [(9, 0, 0, 0, 45, 0), (7, 2, 45, 0, 7, 0)], 52)
        self.answers([A, B, C, ACUTE], [(10, 0, 0, 0, 85, 0), (7, 3, 37, 40, 0, 0)], 85)
        face = FACE + "join b c acute\njoin acute dot hat\n"
        self.answers([A, B, C], [(10, 0, 0, 0, 85, 0)], 85, face=face)
        self.answers([C, B, C], [(3, 0, 0, 0, 40, 0), (7, 1, 40, 0, 7, 0)], 47, face=face)
        self.answers([A, A, B, B, C], [(1, 0, 0, 0, 20, 0), (9, 1, 20, 0, 45, 0), (7, 3, 65, 0, 7, 0)], 72, face=face)
        self.answers([ALEF, ACUTE, DOT], [(4, 0, 0, 0, 50, 1), (14, 1, 24, 69, 0, 1)], 50, face=face)
        # The mark stands between a and b, so these are no neighbours to be joined.
        self.answers([A, ACUTE, B], [(1, 0, 0, 0, 20, 0), (7, 1, 7, 10, 0, 0), (2, 2, 20, 0, 30, 0)], 50)

    def test_a_letter_that_is_no_character_of_marks(self):
        # What a font calls a mark is one, whatever its character's class.
        face = HEAD + "letter a 100\nletter m 100\nchar 97 a\nchar 98 m\nmark m 0 10 20\nbase a 0 30 50\n"
        self.answers([97, 98], [(0, 0, 0, 0, 1000, 0), (1, 1, 200, 300, 0, 0)], 1000, size=10000, face=face)


class Pairs(ShapeCase):
    def test_at_even_levels(self):
        self.answers([A, A], [(1, 0, 0, 0, 20, 0), (1, 1, 16, 0, 20, 0)], 36)
        self.answers([A, C, A], [(1, 0, 0, 0, 20, 0), (3, 1, 26, 0, 40, 0), (1, 2, 59, 0, 20, 0)], 79)
        self.answers([A, C], [(1, 0, 0, 0, 20, 2), (3, 1, 26, 0, 40, 2)], 66, side=1)

    def test_at_odd_levels(self):
        self.answers([ALEF, GIMEL], [(6, 1, 0, 0, 70, 1), (4, 0, 75, 0, 50, 1)], 125)
        self.answers([GIMEL, ALEF], [(4, 1, 0, 0, 50, 1), (6, 0, 59, 0, 70, 1)], 129)

    def test_with_marks_between(self):
        self.answers([A, ACUTE, DOT, C],
                     [(1, 0, 0, 0, 20, 0), (7, 1, 7, 10, 0, 0), (8, 2, 7, -5, 0, 0), (3, 3, 26, 0, 40, 0)], 66)
        self.answers([ALEF, ACUTE, GIMEL],
                     [(6, 2, 0, 0, 70, 1), (4, 0, 75, 0, 50, 1), (7, 1, 97, 20, 0, 1)], 125)

    def test_marks_that_are_placed_have_none(self):
        face = FACE + "pair a acute 500\npair acute c 500\npair alef acute 500\n"
        self.answers([A, ACUTE, C], [(1, 0, 0, 0, 20, 0), (7, 1, 7, 10, 0, 0), (3, 2, 26, 0, 40, 0)], 66, face=face)
        self.answers([ALEF, ACUTE], [(4, 0, 0, 0, 50, 1), (7, 1, 22, 20, 0, 1)], 50, face=face)

    def test_marks_that_are_not_placed_have_them(self):
        face = FACE + "pair b acute 500\npair acute c -3\n"
        self.answers([B, ACUTE, C], [(2, 0, 0, 0, 30, 0), (7, 1, 530, 0, 7, 0), (3, 2, 534, 0, 40, 0)], 574, face=face)

    def test_letters_without_width_have_them(self):
        face = HEAD + "letter a 0\nletter b 0\nchar 97 a\nchar 98 b\npair a b 20\npair b a 30\n"
        self.answers([97, 98, 97], [(0, 0, 0, 0, 0, 0), (1, 1, 20, 0, 0, 0), (0, 2, 50, 0, 0, 0)], 50, size=1000,
                     face=face)

    def test_none_between_unlike_levels(self):
        self.answers([A, ALEF, A], [(1, 0, 0, 0, 20, 0), (4, 1, 20, 0, 50, 1), (1, 2, 70, 0, 20, 0)], 90)
        self.answers([A, LI, A, PI, A], [(1, 0, 0, 0, 20, 0), (1, 2, 20, 0, 20, 2), (1, 4, 40, 0, 20, 0)], 60)

    def test_none_between_two_stretches_of_one_level(self):
        # The part between the two has no letter that's seen, and still parts them.
        self.answers([A, LI, LI, PI, PI, A], [(1, 0, 0, 0, 20, 0), (1, 5, 20, 0, 20, 0)], 40)

    def test_of_joined_letters(self):
        face = FACE + "pair ab a -9\npair a ab 3\n"
        self.answers([A, A, B, A], [(1, 0, 0, 0, 20, 0), (9, 1, 23, 0, 45, 0), (1, 3, 59, 0, 20, 0)], 79, face=face)

    def test_none_beyond_the_stretch(self):
        self.answers([A, A, A], [(1, 1, 0, 0, 20, 0)], 20, start=1, to=2)


class Scaled(ShapeCase):
    FACE = """font 2 0 0 0
letter a 1
letter b 3
letter m 0
char 97 a
char 98 b
char 109 m
pair a a -1
pair a b -3
pair b a 1
mark m 0 1 -1
base a 0 0 -3
base b 0 -1 1
"""

    def test_halves_go_up(self):
        self.answers([97], [(0, 0, 0, 0, 1, 0)], 1, size=1, face=self.FACE)
        self.answers([98], [(1, 0, 0, 0, 2, 0)], 2, size=1, face=self.FACE)
        self.answers([97], [(0, 0, 0, 0, 2, 0)], 2, size=3, face=self.FACE)

    def test_below_nought(self):
        # -1/2 is 0, -3/2 is -1, 1/2 is 1: each is scaled by itself.
        self.answers([97, 97], [(0, 0, 0, 0, 1, 0), (0, 1, 1, 0, 1, 0)], 2, size=1, face=self.FACE)
        self.answers([97, 98], [(0, 0, 0, 0, 1, 0), (1, 1, 0, 0, 2, 0)], 2, size=1, face=self.FACE)
        self.answers([98, 97], [(1, 0, 0, 0, 2, 0), (0, 1, 3, 0, 1, 0)], 4, size=1, face=self.FACE)
        self.answers([97, 109], [(0, 0, 0, 0, 1, 0), (2, 1, -1, -1, 0, 0)], 1, size=1, face=self.FACE)
        self.answers([98, 109], [(1, 0, 0, 0, 2, 0), (2, 1, -1, 1, 0, 0)], 2, size=1, face=self.FACE)

    def test_thirds(self):
        face = "font 3 0 0 0\nletter a 1\nletter b 2\nchar 97 a\nchar 98 b\npair a a -1\npair a b -2\n"
        self.answers([97, 97, 98], [(0, 0, 0, 0, 0, 0), (0, 1, 0, 0, 0, 0), (1, 2, -1, 0, 1, 0)], 0, size=1, face=face)

    def test_x_may_go_below_nought(self):
        face = "font 1 0 0 0\nletter a 0\nchar 97 a\npair a a -32768\n"
        self.answers([97, 97, 97], [(0, 0, 0, 0, 0, 0), (0, 1, -2147483648, 0, 0, 0),
                                    (0, 2, -4294967296, 0, 0, 0)], -4294967296, size=65536, face=face)

    def test_the_greatest(self):
        face = "font 1 0 0 0\nletter a 32767\nchar 97 a\n"
        self.answers([97, 97], [(0, 0, 0, 0, 2147418112, 0), (0, 1, 2147418112, 0, 2147418112, 0)], 4294836224,
                     size=65536, face=face)
        face = "font 16384 0 0 0\nletter a 8191\nletter b 8192\nchar 97 a\nchar 98 b\n"
        self.answers([97, 98], [(0, 0, 0, 0, 0, 0), (1, 1, 0, 0, 1, 0)], 1, size=1, face=face)


class Everything(ShapeCase):
    CODES = [A, B, C, ALEF, BET, GIMEL, ACUTE, DOT, HAT, 40, 41, 49, 32, 120, LI, RI, FI, PI]
    MORE = """join b c acute
join acute dot hat
join gimel bet alef
pair b b 3
pair gimel gimel -11
pair ab a -9
pair opening a 2
pair a opening 1
pair closing opening 13
pair none none -1
pair both gimel 6
base both 1 7 7
base none 2 3 -3
"""

    def check(self, text, side, start, to, size):
        face = FACE + self.MORE
        found = self.shape(text, side, start, to, size, face)
        self.assertEqual(found, slow_shape(text, levels(side, text)[1:], start, to, face, size), (text, side, start, to))

    def test_many_mixed_texts(self):
        for number, text in enumerate(mixed(self.CODES, 500, 20)):
            self.check(text, number % 3, 0, 20, 100 + number)
            self.check(text, number % 3, number % 10, 10 + number % 7, 1 + number)

    def test_long_mixed_texts(self):
        for number, text in enumerate(mixed(self.CODES[:9] + [LI, PI, A, A, B, ALEF], 40, 200)):
            self.check(text, number % 3, 0, 200, 57)

    def test_several_paragraphs(self):
        for number, text in enumerate(mixed(self.CODES, 60, 12)):
            self.check([ALEF, 10] + text + [10, B], number % 3, 2, 15, 33)


class Long(ShapeCase):
    def test_long_texts_end_soon(self):
        texts = [[code] * 30000 for code in (A, ALEF, ACUTE, LI, RI, 40)]
        texts.append([A] + [ACUTE] * 29999)
        texts.append([A, ALEF] * 15000)
        texts.append([A, B, C] * 10000)
        texts.append([RI, LI] * 30 + [A, ALEF] * 14970)
        for text in texts:
            for side in (0, 1, 2):
                begun = time.monotonic()
                found = self.shape(text, side)
                self.assertLess(time.monotonic() - begun, 5)
                self.assertEqual(len(found), 2 + 6 * found[0])

    def test_fonts_of_many_lines_end_soon(self):
        told = names(40)
        face = HEAD + "".join(["letter " + name + " 7\n" for name in told])
        face += "".join([f"char {97 + number} {name}\n" for number, name in enumerate(told)])
        face += "".join([f"pair {one} {two} -1\n" for one in told for two in told])
        face += "".join([f"join {one} {two} {one}\n" for one in told for two in told])
        self.assertLess(len(face), 100000)
        text = [97 + number % 40 for number in range(30000)]
        begun = time.monotonic()
        self.assertEqual(self.shape(text, face=face)[0], 1)
        self.assertLess(time.monotonic() - begun, 5)

    def test_many_characters_end_soon(self):
        face = ONE + "".join([f"char {code} a\n" for code in range(7500)])
        begun = time.monotonic()
        self.assertEqual(self.shape(list(range(11, 8000)), face=face)[0], 7989)
        self.assertLess(time.monotonic() - begun, 5)


class Kept(ShapeCase):
    def test_what_is_handed_in_stays_and_nothing_is_kept(self):
        text = [A, ACUTE, ALEF, BET, LI, 40, PI, 10, B]
        face = bytes_of(FACE)
        first = shape(77, 2, 0, 8, face, text)
        self.assertEqual(text, [A, ACUTE, ALEF, BET, LI, 40, PI, 10, B])
        self.assertEqual(face, bytes_of(FACE))
        self.shape([A, B, C])
        self.shape(text, 0, 0, 9)
        self.shape(text, 1, 0, 8, face=ONE)
        self.shape(text, 1, 0, 8, face="")
        self.assertEqual(shape(77, 2, 0, 8, face, text), first)

    def test_whole_numbers_in_a_list(self):
        for to in (0, 3, 4):
            answer = self.shape([A, ALEF, ACUTE], to=to)
            self.assertIs(type(answer), list)
            self.assertEqual({type(number) for number in answer}, {int})


if __name__ == "__main__":
    unittest.main()
