"""Promise 4: levels."""

import time
import unittest

from letterfall.page import levels
from tests.helper import CODES, all_of, codes, mixed
from tests.slow_levels import slow_levels


class LevelsCase(unittest.TestCase):
    def answers(self, side, words, wanted):
        """wanted has a word for each character: its level."""
        found = levels(side, codes(words))
        self.assertEqual(found, [len(words.split())] + [int(word) for word in wanted.split()], (side, words))


class Refusals(LevelsCase):
    def test_sides(self):
        for text in ([], [97], [97, 10, 98]):
            for side in (0, 1, 2):
                self.assertEqual(levels(side, text)[0], len(text))
            for side in (-1, 3, 4, 4294967295):
                self.assertEqual(levels(side, text), [-8])

    def test_code_points(self):
        for code in (0, 55295, 57344, 1114111):
            self.assertEqual(levels(0, [97, code])[0], 2)
        for code in (-1, 55296, 55297, 57342, 57343, 1114112, 4294967295):
            for side in (0, 1, 2, 3):
                self.assertEqual(levels(side, [code]), [-8])
                self.assertEqual(levels(side, [97, code]), [-8])
                self.assertEqual(levels(side, [code, 10, 97]), [-8])

    def test_a_text_has_an_end(self):
        self.assertEqual(levels(0, [97] * 65536), [65536] + [0] * 65536)
        self.assertEqual(levels(0, [97] * 65537), [-8])


class Plain(LevelsCase):
    def test_the_empty_text(self):
        for side in (0, 1, 2):
            self.assertEqual(levels(side, []), [0])

    def test_one_class_alone(self):
        self.answers(0, "L L L", "0 0 0")
        self.answers(1, "L L L", "2 2 2")
        self.answers(2, "L L L", "0 0 0")
        self.answers(0, "R R R", "1 1 1")
        self.answers(1, "R R R", "1 1 1")
        self.answers(2, "R R R", "1 1 1")
        self.answers(0, "A A A", "1 1 1")
        self.answers(1, "A A A", "1 1 1")
        self.answers(2, "A A A", "1 1 1")
        self.answers(0, "N N N", "0 0 0")
        self.answers(1, "N N N", "2 2 2")
        self.answers(2, "N N N", "0 0 0")
        for name in ("M", "O", "PI"):
            self.answers(0, f"{name} {name}", "0 0")
            self.answers(1, f"{name} {name}", "1 1")
            self.answers(2, f"{name} {name}", "0 0")

    def test_mixed(self):
        self.answers(0, "L R L", "0 1 0")
        self.answers(1, "L R L", "2 1 2")
        self.answers(0, "L A L", "0 1 0")
        self.answers(0, "L O R O R O L", "0 0 1 1 1 0 0")
        self.answers(1, "R O L O L O R", "1 1 2 2 2 1 1")

    def test_marks(self):
        self.answers(0, "L M R M A M N M O M", "0 0 1 1 1 1 2 2 0 0")
        self.answers(1, "L M R M A M N M O M", "2 2 1 1 1 1 2 2 1 1")
        self.answers(0, "R M M M L M", "1 1 1 1 0 0")
        self.answers(0, "R O M R", "1 1 1 1")
        self.answers(0, "R O M M", "1 0 0 0")

    def test_marks_at_a_runs_beginning(self):
        self.answers(0, "M R", "0 1")
        self.answers(1, "M M L", "1 1 2")
        self.answers(0, "M O R", "0 0 1")
        self.answers(1, "M O L", "1 1 2")
        self.answers(0, "R LI M R PI R", "1 1 2 3 1 1")
        self.answers(0, "R RI M L PI R", "1 1 1 2 1 1")
        self.answers(1, "L FI M N PI L", "2 2 2 2 2 2")

    def test_marks_behind_li_ri_fi_pi(self):
        self.answers(0, "R PI M R", "1 1 1 1")
        self.answers(0, "R PI M L", "1 0 0 0")
        self.answers(0, "R LI L PI M R", "1 1 2 1 1 1")
        self.answers(0, "R LI L PI M M", "1 0 2 0 0 0")
        self.answers(1, "L PI M N", "2 2 2 2")

    def test_a_mark_between_an_arabic_letter_and_a_digit(self):
        self.answers(0, "A M N", "1 1 2")
        self.answers(0, "N M A M N M L", "0 0 1 1 2 2 0")

    def test_digits(self):
        self.answers(0, "L N", "0 0")
        self.answers(1, "L N", "2 2")
        self.answers(0, "R N", "1 2")
        self.answers(1, "R N", "1 2")
        self.answers(0, "A N", "1 2")
        self.answers(1, "A N", "1 2")
        self.answers(0, "N R N L N", "0 1 2 0 0")
        self.answers(1, "N L N R N", "2 2 2 1 2")
        self.answers(0, "L O N", "0 0 0")
        self.answers(0, "R O N", "1 1 2")
        self.answers(1, "L O N", "2 2 2")
        self.answers(0, "A O N O N O L", "1 1 2 1 2 0 0")

    def test_digits_count_as_right(self):
        self.answers(0, "R N O N R", "1 2 1 2 1")
        self.answers(0, "R N O L", "1 2 0 0")
        self.answers(1, "L O R N O L", "2 1 1 2 1 2")
        self.answers(1, "N O L", "2 1 2")
        self.answers(1, "N O R", "2 1 1")
        self.answers(0, "A N O A", "1 2 1 1")

    def test_stretches_at_the_ends(self):
        self.answers(0, "O O R", "0 0 1")
        self.answers(1, "O O R", "1 1 1")
        self.answers(1, "O O L", "1 1 2")
        self.answers(0, "O O L", "0 0 0")
        self.answers(0, "R O O", "1 0 0")
        self.answers(1, "L O O", "2 1 1")
        self.answers(1, "L O PI O M", "2 1 1 1 1")

    def test_stretches_between_unlike_sides(self):
        self.answers(0, "L O O R", "0 0 0 1")
        self.answers(0, "R O O L", "1 0 0 0")
        self.answers(1, "L O O R", "2 1 1 1")
        self.answers(1, "R O O L", "1 1 1 2")


class Paragraphs(LevelsCase):
    def test_ends(self):
        self.answers(0, "B", "0")
        self.answers(1, "B", "1")
        self.answers(2, "B", "0")
        self.answers(0, "B B", "0 0")
        self.answers(1, "B B", "1 1")
        self.answers(2, "R B B R", "1 1 0 1")
        self.answers(2, "R B", "1 1")
        self.answers(2, "R", "1")

    def test_each_has_its_side(self):
        self.answers(2, "L O B R O B A O B O B N O", "0 0 0 1 1 1 1 1 1 0 0 0 0")
        self.answers(2, "O R B O L", "1 1 1 0 0")
        self.answers(2, "N R B N L", "2 1 1 0 0")
        self.answers(2, "M R B M L", "1 1 1 0 0")

    def test_told_sides_are_of_all(self):
        self.answers(0, "R O B R O B L O", "1 0 0 1 0 0 0 0")
        self.answers(1, "R O B R O B L O", "1 1 1 1 1 1 2 1")

    def test_nothing_goes_over_an_end(self):
        self.answers(0, "A B N", "1 0 0")
        self.answers(1, "L B N", "2 1 2")
        self.answers(0, "R B O R", "1 0 0 1")
        self.answers(0, "R B M", "1 0 0")
        self.answers(0, "LI L B L PI", "0 2 0 0 0")
        self.answers(0, "RI R B RI L B PI R", "0 1 0 0 2 0 0 1")

    def test_a_side_behind_parts(self):
        self.answers(2, "LI L PI R", "1 2 1 1")
        self.answers(2, "RI R PI L", "0 1 0 0")
        self.answers(2, "FI R PI L", "0 1 0 0")
        self.answers(2, "LI L LI L PI L PI R", "1 2 2 4 2 2 1 1")
        self.answers(2, "LI L R", "0 2 3")
        self.answers(2, "RI R B R", "0 1 0 1")
        self.answers(2, "PI R", "1 1")
        self.answers(2, "LI PI PI R", "1 1 1 1")
        self.answers(2, "LI LI PI R", "0 2 2 3")

    def test_b_has_the_paragraphs_level(self):
        self.answers(0, "R B", "1 0")
        self.answers(1, "L B", "2 1")
        self.answers(0, "RI R B", "0 1 0")
        self.answers(1, "RI LI RI L B", "1 3 4 6 1")


class Parts(LevelsCase):
    def test_each_alone(self):
        self.answers(0, "LI L PI", "0 2 0")
        self.answers(0, "RI L PI", "0 2 0")
        self.answers(0, "RI R PI", "0 1 0")
        self.answers(1, "LI L PI", "1 2 1")
        self.answers(1, "RI R PI", "1 3 1")
        self.answers(1, "LI R PI", "1 3 1")

    def test_nested(self):
        self.answers(0, "LI O LI O PI O PI O", "0 2 2 4 2 2 0 0")
        self.answers(0, "RI O RI O PI O PI O", "0 1 1 3 1 1 0 0")
        self.answers(0, "LI O RI O LI O PI O PI O PI", "0 2 2 3 3 4 3 3 2 2 0")
        self.answers(1, "LI O RI O LI O PI O PI O PI", "1 2 2 3 3 4 3 3 2 2 1")
        self.answers(1, "RI O RI O PI O PI O", "1 3 3 5 3 3 1 1")

    def test_first_strong(self):
        self.answers(0, "FI L PI", "0 2 0")
        self.answers(0, "FI R PI", "0 1 0")
        self.answers(0, "FI A PI", "0 1 0")
        self.answers(1, "FI R PI", "1 3 1")
        self.answers(1, "FI L PI", "1 2 1")
        self.answers(0, "FI O PI", "0 2 0")
        self.answers(1, "FI O N PI", "1 2 2 1")
        self.answers(1, "FI PI", "1 1")
        self.answers(0, "FI O O R L PI", "0 1 1 1 2 0")
        self.answers(0, "FI L R PI", "0 2 3 0")

    def test_first_strong_leaves_parts_out(self):
        self.answers(0, "FI LI L PI R PI", "0 1 2 1 1 0")
        self.answers(0, "FI RI R PI L PI", "0 2 3 2 2 0")
        self.answers(0, "FI FI R PI O PI R", "0 2 3 2 2 0 1")
        self.answers(0, "FI LI L FI R PI PI A PI", "0 1 2 2 3 2 1 1 0")
        self.answers(0, "FI O PI R", "0 2 0 1")
        self.answers(0, "FI LI PI PI R", "0 2 2 0 1")

    def test_first_strong_without_its_end(self):
        self.answers(0, "FI R", "0 1")
        self.answers(0, "FI LI R", "0 2 5")
        self.answers(0, "FI LI L PI R", "0 1 2 1 1")
        self.answers(0, "FI O B R", "0 2 0 1")

    def test_without_their_end(self):
        self.answers(0, "LI L", "0 2")
        self.answers(0, "RI L O", "0 2 1")
        self.answers(0, "L LI R O", "0 0 3 2")
        self.answers(0, "R LI O", "1 0 2")
        self.answers(0, "LI RI LI B", "0 2 3 0")

    def test_an_end_that_belongs_to_none(self):
        self.answers(0, "R PI R", "1 1 1")
        self.answers(0, "L PI R", "0 0 1")
        self.answers(0, "PI PI LI L PI PI R", "0 0 0 2 0 0 1")
        self.answers(0, "RI R PI PI L", "0 1 0 0 0")

    def test_stretches_across_a_part_left_out(self):
        self.answers(0, "R LI L PI R", "1 1 2 1 1")
        self.answers(0, "R O LI L PI O R", "1 1 1 2 1 1 1")
        self.answers(1, "L RI R PI L", "2 2 3 2 2")
        self.answers(0, "R LI R PI L", "1 0 3 0 0")
        self.answers(0, "R LI LI PI PI R", "1 1 2 2 1 1")

    def test_a_run_goes_on_behind_a_part(self):
        self.answers(0, "A LI L PI N", "1 1 2 1 2")
        self.answers(0, "L RI A PI N", "0 0 1 0 0")
        self.answers(0, "R LI N PI N", "1 1 2 1 2")
        self.answers(1, "L RI N PI N", "2 2 4 2 2")

    def test_two_parts_one_behind_the_other_are_two_runs(self):
        self.answers(0, "RI A PI RI N PI", "0 1 0 0 2 0")
        self.answers(0, "LI R PI LI O R PI", "0 3 0 0 2 3 0")
        self.answers(0, "LI R O PI LI O R PI", "0 3 2 0 0 2 3 0")


class Depth(LevelsCase):
    def nested(self, side, words, wanted):
        self.assertEqual(levels(side, codes(words)), [len(wanted)] + wanted)

    def test_up_to_sixty(self):
        self.nested(0, "LI " * 30 + "O", list(range(0, 61, 2)))
        self.nested(0, "LI " * 31 + "O", list(range(0, 61, 2)) + [60])
        self.nested(1, "RI " * 29 + "O", list(range(1, 60, 2)))
        self.nested(1, "RI " * 30 + "O", list(range(1, 60, 2)) + [59])
        self.nested(0, "RI LI " * 30 + "O", list(range(61)))
        self.nested(0, "RI LI " * 30 + "RI LI FI O", list(range(61)) + [60, 60, 60])

    def test_highest_levels_of_letters(self):
        begun = "LI " * 30
        self.nested(0, begun + "R N L", list(range(0, 60, 2)) + [61, 62, 60])

    def test_what_comes_back(self):
        up = list(range(0, 61, 2))
        self.nested(0, "LI " * 30 + "PI " * 31, up[:-1] + up[:-1][::-1] + [0])
        self.nested(0, "LI " * 33 + "PI " * 33, up[:-1] + [60] * 6 + up[:-1][::-1])
        self.nested(0, "LI " * 32 + "O PI O PI O PI O", up[:-1] + [60] * 7 + [58, 58])

    def test_below_one_that_could_not_push(self):
        up = list(range(1, 60, 2))
        # At 59 RI can't push, but LI within it can: its PI takes that off, RI's nothing.
        self.nested(1, "RI " * 29 + "RI O LI O PI O PI O PI O",
                    up + [59, 59, 60, 59, 59, 59, 59, 57, 57])
        self.nested(1, "RI " * 29 + "FI R LI O PI PI PI", up + [59, 59, 60, 59, 59, 57])
        self.nested(1, "RI " * 29 + "FI L PI PI", up + [60, 59, 57])

    def test_marks_behind_one_that_could_not_push(self):
        begun = "LI " * 30
        up = list(range(0, 60, 2))
        self.nested(0, begun + "R LI M R", up + [61, 61, 61, 61])
        self.nested(0, begun + "R LI M L", up + [61, 60, 60, 60])
        self.nested(0, begun + "A LI N", up + [61, 61, 62])


class Everything(LevelsCase):
    NAMES = list(CODES)

    def check(self, names):
        text = [CODES[name] for name in names]
        for side in (0, 1, 2):
            self.assertEqual(levels(side, text), [len(text)] + slow_levels(names, side), (side, names))

    def test_all_short_texts(self):
        for names in all_of(self.NAMES, 4):
            self.check(names)

    def test_many_mixed_texts(self):
        for names in mixed(self.NAMES, 400, 24):
            self.check(names)
        for names in mixed(self.NAMES[:-1] + ["LI", "RI", "FI", "PI"], 200, 40):
            self.check(names)

    def test_many_deep_texts(self):
        for names in mixed(["LI", "RI", "FI", "RI", "FI", "L", "R", "M", "N", "PI"], 20, 110):
            self.check(names)

    def test_long_texts_end_soon(self):
        texts = [[CODES[name]] * 30000 for name in self.NAMES]
        texts.append(codes("LI") * 15000 + codes("PI") * 15000)
        texts.append(codes("FI") * 29999 + codes("R"))
        texts.append(codes("FI O") * 15000)
        texts.append(codes("FI R PI") * 10000)
        texts.append(codes("R") + codes("O") * 29998 + codes("R"))
        texts.append(list(range(30000)))
        for text in texts:
            for side in (0, 1, 2):
                begun = time.monotonic()
                self.assertEqual(len(levels(side, text)), 30001)
                self.assertLess(time.monotonic() - begun, 5)


class Kept(LevelsCase):
    def test_what_is_handed_in_stays_and_nothing_is_kept(self):
        words = "L R A N M O LI R PI FI A B R O"
        text = codes(words)
        first = levels(2, text)
        self.assertEqual(text, codes(words))
        for side, other in ((0, words), (1, "R"), (2, ""), (3, words)):
            levels(side, codes(other))
            self.assertEqual(levels(2, text), first)
        self.assertEqual(text, codes(words))

    def test_whole_numbers_in_a_list(self):
        for side in (0, 1, 2, 3):
            answer = levels(side, codes("L R LI N PI M B"))
            self.assertIs(type(answer), list)
            self.assertEqual({type(number) for number in answer}, {int})


if __name__ == "__main__":
    unittest.main()
