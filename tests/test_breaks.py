"""Promise 7: breaks."""

import time
import unittest

from letterfall.page import breaks
from tests.helper import all_of, mixed

CLOSING = (33, 41, 44, 46, 58, 59, 63, 93, 125, 8217, 8221, 12289, 12290)
OPENING = (40, 91, 123, 8216, 8220)
LETTERS = (97, 1488, 1576, 12354)
MARKS = (768, 879, 1425, 1611, 8400)

# One for each thing that a rule tells of: what's before, here and behind are taken from these.
SIGNS = (10, 32, 8203, 160, 8288, 769, 33, 40, 173, 45, 8208, 97, 1488, 1576, 49, 35, 12354, 12289, 13312)


def wide(code):
    return code in range(12353, 12544) or code in range(13312, 40960) or code in range(44032, 55204)


def hyphen(before, here, behind):
    return here in (45, 8208) and before in LETTERS + (13312,) and behind in LETTERS + (13312,)


# In the document's order; None stands for the text's beginning and end.
RULES = (
    (lambda before, here, behind: here == 10, 2),
    (lambda before, here, behind: behind is None, 2),
    (lambda before, here, behind: behind == 10, 0),
    (lambda before, here, behind: behind in (32, 8203), 0),
    (lambda before, here, behind: here == 8203, 1),
    (lambda before, here, behind: here in (160, 8288) or behind in (160, 8288), 0),
    (lambda before, here, behind: behind == 769, 0),
    (lambda before, here, behind: here == 32, 1),
    (lambda before, here, behind: behind in CLOSING, 0),
    (lambda before, here, behind: here in OPENING, 0),
    (lambda before, here, behind: here == 173, 1),
    (hyphen, 1),
    (lambda before, here, behind: wide(here) or wide(behind), 1),
    (lambda before, here, behind: True, 0),
)


def rules_at(before, here, behind):
    return [number for number, rule in enumerate(RULES) if rule[0](before, here, behind)]


def slow_breaks(text):
    around = [None] + text + [None]
    found = [RULES[rules_at(*around[place:place + 3])[0]][1] for place in range(len(text))]
    return [len(text)] + found


class Breaks(unittest.TestCase):
    def answers(self, text, wanted):
        self.assertEqual(breaks(text), [len(text)] + wanted, text)

    def between(self, here, behind, wanted):
        """What's told behind here, in the middle of a text."""
        self.answers([35, here, behind, 35], [breaks([35, here, 35])[1], wanted, breaks([behind, 35])[1], 2])
        self.answers([here, behind], [wanted, 2])

    def test_the_empty_text(self):
        self.assertEqual(breaks([]), [0])

    def test_refusals(self):
        for code in (-1, 55296, 57343, 1114112, 4294967295):
            self.assertEqual(breaks([code]), [-8])
            self.assertEqual(breaks([97, code, 97]), [-8])
        for code in (0, 55295, 57344, 1114111):
            self.assertEqual(breaks([code]), [1, 2])
        self.assertEqual(breaks([97] * 65536)[0], 65536)
        self.assertEqual(breaks([97] * 65537), [-8])

    def test_line_feeds(self):
        self.answers([10], [2])
        self.answers([10, 10], [2, 2])
        self.answers([97, 10, 97], [0, 2, 2])
        self.answers([10, 97], [2, 2])
        self.answers([97, 10], [0, 2])
        self.answers([32, 10, 32], [0, 2, 2])
        self.answers([10, 769, 10, 160, 10, 33], [2, 0, 2, 0, 2, 2])

    def test_the_end(self):
        for code in SIGNS:
            self.answers([code], [2])
            self.assertEqual(breaks([35, code])[-1], 2)

    def test_before_a_line_feed(self):
        for code in SIGNS:
            self.assertEqual(breaks([code, 10]), [2, 2 if code == 10 else 0, 2])

    def test_blanks(self):
        self.answers([97, 32, 97], [0, 1, 2])
        self.answers([97, 32, 32, 97], [0, 0, 1, 2])
        self.answers([32, 97], [1, 2])
        self.answers([97, 32], [0, 2])
        self.answers([97, 8203, 97], [0, 1, 2])
        self.answers([8203, 97], [1, 2])
        self.answers([97, 8203], [0, 2])
        self.answers([8203, 8203, 97], [0, 1, 2])
        self.answers([8203, 32, 97], [0, 1, 2])
        self.answers([32, 8203, 97], [0, 1, 2])
        self.answers([12354, 32, 12354, 8203, 12354], [0, 1, 0, 1, 2])

    def test_behind_8203(self):
        for behind in (160, 8288, 769, 33, 41, 97, 12354):
            self.between(8203, behind, 1)

    def test_glue(self):
        for code in (160, 8288):
            for other in (97, 32, 40, 173, 45, 12354, 35):
                self.between(other, code, 0)
            for other in (97, 769, 33, 40, 12354, 160, 8288):
                self.between(code, other, 0)
            self.answers([code, 32, 97], [0, 1, 2])
            self.answers([code], [2])
        self.between(159, 12354, 1)
        self.between(161, 12354, 1)
        self.between(8287, 12354, 1)
        self.between(8289, 12354, 1)

    def test_marks(self):
        for mark in MARKS:
            for before in (97, 32, 173, 12354, 40, 769):
                self.between(before, mark, 0)
            self.between(mark, 97, 0)
            self.between(mark, 12354, 1)
            self.answers([97, 45, mark, 97], [0, 0, 0, 2])
            self.answers([97, mark, 45, 97], [0, 0, 0, 2])

    def test_closing_signs(self):
        for code in CLOSING:
            self.between(97, code, 0)
            self.between(12354, code, 0)
            self.between(173, code, 0)
            self.between(32, code, 1)
            self.between(8203, code, 1)
            self.between(code, 97, 0)
            self.between(code, 12354, 1)
        for code in set(range(11, 8300)) | set(range(12280, 12300)):
            if code not in CLOSING + (32, 160, 8203, 8288) and breaks([173, code]) != [2, 1, 2]:
                self.assertTrue(any(first <= code <= last for first, last in ((768, 879), (1425, 1469), (1611, 1631))))

    def test_opening_signs(self):
        for code in OPENING:
            self.between(code, 97, 0)
            self.between(code, 12354, 0)
            self.between(12354, code, 1)
            self.between(32, code, 1)
            self.between(97, code, 0)
            self.answers([code], [2])
        for code in set(range(11, 8300)) | set(range(12280, 12300)):
            if code not in OPENING + (160, 8288):
                self.answers([code, 12354], [1, 2])

    def test_soft_hyphens(self):
        self.answers([97, 173, 97], [0, 1, 2])
        self.answers([173, 97], [1, 2])
        self.answers([97, 173], [0, 2])
        self.answers([173, 173, 49], [1, 1, 2])
        self.between(172, 97, 0)
        self.between(174, 97, 0)

    def test_hyphens(self):
        for code in (45, 8208):
            for before in LETTERS:
                for behind in LETTERS:
                    self.assertEqual(breaks([before, code, behind])[2], 1)
            for other in (49, 35, 32, 769, 45, 8208, 1632):
                self.assertEqual(breaks([97, code, other])[2], 0)
                self.assertEqual(breaks([other, code, 97])[2], 0)
            self.answers([code, 97], [0, 2])
            self.answers([97, code], [0, 2])
            self.answers([97, code, code, 97], [0, 0, 0, 2])
            self.answers([10, code, 97], [2, 0, 2])
            self.answers([97, code, 12354], [0, 1, 2])
            self.answers([49, code, 12354], [0, 1, 2])
        for code in (44, 46, 47, 8207, 8209):
            self.assertEqual(breaks([97, code, 97])[2], 0)

    def test_wide_ones(self):
        for first, last in ((12353, 12543), (13312, 40959), (44032, 55203)):
            for code in (first, first + 1, last - 1, last):
                self.answers([97, code, 97], [1, 1, 2])
                self.answers([code, code], [1, 2])
                self.answers([49, code, 35], [1, 1, 2])
                self.answers([code], [2])
            for code in (first - 1, last + 1):
                self.answers([97, code, 97], [0, 0, 2])
                self.answers([code, code], [0, 2])

    def test_else_no(self):
        self.answers([97, 98, 49, 35, 1488, 1576, 49], [0, 0, 0, 0, 0, 0, 2])

    def test_each_pair_of_rules_meets(self):
        met = set()
        for before in SIGNS + (None,):
            for here in SIGNS:
                for behind in SIGNS + (None,):
                    rules = rules_at(before, here, behind)
                    met.update([(rules[0], other) for other in rules[1:]])
        # All but those that ask for two things of one place; so the next two tests meet them all.
        apart = [(one, two) for one in range(14) for two in range(one + 1, 14) if (one, two) not in met]
        self.assertEqual(apart, [
            (0, 4), (0, 7), (0, 9), (0, 10), (0, 11), (1, 2), (1, 3), (1, 6), (1, 8), (1, 11), (2, 3), (2, 6), (2, 8),
            (2, 11), (3, 6), (3, 8), (3, 11), (4, 7), (4, 9), (4, 10), (4, 11), (5, 11), (6, 8), (6, 11),
            (7, 9), (7, 10), (7, 11), (8, 11), (9, 10), (9, 11), (10, 11)])

    def test_all_short_texts(self):
        for text in all_of(SIGNS, 3):
            self.assertEqual(breaks(text), slow_breaks(text), text)

    def test_many_mixed_texts(self):
        for text in mixed(SIGNS, 200, 60):
            self.assertEqual(breaks(text), slow_breaks(text), text)

    def test_long_texts_end_soon(self):
        texts = [[code] * 30000 for code in SIGNS]
        texts.append(list(range(30000)))
        for text in texts:
            begun = time.monotonic()
            self.assertEqual(len(breaks(text)), 30001)
            self.assertLess(time.monotonic() - begun, 5)

    def test_what_is_handed_in_stays_and_nothing_is_kept(self):
        text = [97, 45, 98, 32, 12354, 41, 10, 97]
        first = breaks(text)
        self.assertEqual(text, [97, 45, 98, 32, 12354, 41, 10, 97])
        breaks([10, 32])
        breaks([55296])
        breaks([])
        self.assertEqual(breaks(text), first)

    def test_whole_numbers_in_a_list(self):
        for text in ([], [97, 32, 10], [55296]):
            answer = breaks(text)
            self.assertIs(type(answer), list)
            self.assertEqual({type(number) for number in answer}, {int})


if __name__ == "__main__":
    unittest.main()
