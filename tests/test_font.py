"""Promise 1: font."""

import unittest

from letterfall.page import font
from tests.helper import FULL, HEAD, ONE, TWO, bytes_of, wrong


class Font(unittest.TestCase):
    def answers(self, text, answer):
        face = bytes_of(text)
        self.assertEqual(font(face), answer)

    def test_every_kind_of_line(self):
        self.answers(FULL, [5, 1000, 800, 200, 90, 3, 3, 2])

    def test_head_number_by_number(self):
        self.answers("font 1 2 3 4\nletter a 5\n", [1, 1, 2, 3, 4, 0, 0, 0])
        self.answers("font 16384 32767 0 0\nletter a 0\n", [1, 16384, 32767, 0, 0, 0, 0, 0])
        self.answers("font 1 0 32767 0\nletter a 0\n", [1, 1, 0, 32767, 0, 0, 0, 0])
        self.answers("font 1 0 0 32767\nletter a 0\n", [1, 1, 0, 0, 32767, 0, 0, 0])

    def test_counts_number_by_number(self):
        self.answers(ONE, [1, 1000, 800, 200, 90, 0, 0, 0])
        self.answers(TWO, [2, 1000, 800, 200, 90, 0, 0, 0])
        self.answers(TWO + "char 1 a\n", [2, 1000, 800, 200, 90, 1, 0, 0])
        self.answers(TWO + "char 1 a\nchar 2 a\nchar 3 b\n", [2, 1000, 800, 200, 90, 3, 0, 0])
        self.answers(TWO + "pair a b 1\npair b a 1\n", [2, 1000, 800, 200, 90, 0, 2, 0])
        self.answers(TWO + "join a b a\njoin a a a\njoin b b b\njoin b a b\n", [2, 1000, 800, 200, 90, 0, 0, 4])

    def test_others_are_not_counted(self):
        self.answers(ONE + "move 0 0\nline 0 0\ncurve 0 0 0 0\nbase a 0 0 0\nmark a 1 0 0\n",
                     [1, 1000, 800, 200, 90, 0, 0, 0])

    def test_many_characters(self):
        text = ONE + "".join([f"char {code} a\n" for code in range(6000)])
        self.answers(text, [1, 1000, 800, 200, 90, 6000, 0, 0])

    def test_wrong_line_of_many(self):
        lines = FULL.splitlines()
        for number in range(1, len(lines) + 1):
            spoiled = lines[:number - 1] + [lines[number - 1] + "?"] + lines[number:]
            self.answers("\n".join(spoiled) + "\n", wrong(number))

    def test_first_of_two_wrong_lines(self):
        self.answers(ONE + "wrong\nwrong\n", wrong(3))
        self.answers(ONE + "char 97 b\nletter a 1\n", wrong(3))

    def test_refusals_that_look_like_others(self):
        self.answers(ONE + "wrong\n", [-5])
        self.answers(ONE + "char 1 a\nchar 2 a\nchar 3 a\nwrong\n", [-8])

    def test_numbers_that_are_no_bytes(self):
        for number in (-1, 256, 2 ** 32):
            self.assertEqual(font(bytes_of(ONE) + [number]), [-8])
            self.assertEqual(font(bytes_of("wrong\n") + [number]), [-8])
            self.assertEqual(font([number]), [-8])

    def test_bytes_that_a_font_lacks(self):
        self.assertEqual(font([0]), wrong(1))
        self.assertEqual(font([255]), wrong(1))
        self.assertEqual(font(bytes_of(HEAD) + [13, 10]), wrong(2))

    def test_what_is_handed_in_stays(self):
        for text in (FULL, ONE, HEAD, "", "wrong"):
            face = bytes_of(text)
            font(face)
            self.assertEqual(face, bytes_of(text))

    def test_nothing_is_kept(self):
        first = font(bytes_of(FULL))
        for text in (TWO, HEAD, "", FULL[:-1]):
            again = font(bytes_of(text))
            self.assertEqual(font(bytes_of(FULL)), first)
            self.assertEqual(font(bytes_of(text)), again)

    def test_an_answer_is_the_callers_own(self):
        face = bytes_of(FULL)
        answer = font(face)
        kept = list(answer)
        answer.clear()
        self.assertEqual(font(face), kept)

    def test_whole_numbers_in_a_list(self):
        for text in (FULL, HEAD):
            answer = font(bytes_of(text))
            self.assertIs(type(answer), list)
            self.assertEqual({type(number) for number in answer}, {int})


if __name__ == "__main__":
    unittest.main()
