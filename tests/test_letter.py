"""Promise 2: letter."""

import unittest

from letterfall.page import font, letter
from tests.helper import FULL, HEAD, ONE, TWO, bytes_of, wrong


class Letter(unittest.TestCase):
    def answers(self, k, text, answer):
        self.assertEqual(letter(k, bytes_of(text)), answer)

    def test_every_kind_of_line(self):
        self.answers(0, FULL, [0, 500, 3, -1])
        self.answers(1, FULL, [0, 520, 0, -1])
        self.answers(2, FULL, [0, 530, 5, -1])
        self.answers(3, FULL, [0, 0, 0, 3])
        self.answers(4, FULL, [0, 990, 1, 0])

    def test_widths(self):
        text = HEAD + "letter a 0\nletter b 1\nletter c 32767\n"
        self.answers(0, text, [0, 0, 0, -1])
        self.answers(1, text, [0, 1, 0, -1])
        self.answers(2, text, [0, 32767, 0, -1])

    def test_lines_of_the_letter_told_last(self):
        text = TWO + "move 0 0\nline 1 1\nletter c 1\nchar 97 a\nmove 0 0\ncurve 1 1 2 2\nmark a 1 0 0\nline 3 3\n"
        self.answers(0, text, [0, 500, 0, 1])
        self.answers(1, text, [0, 600, 2, -1])
        self.answers(2, text, [0, 1, 3, -1])

    def test_most_lines(self):
        self.answers(0, ONE + "move 0 0\n" * 1024, [0, 500, 1024, -1])
        self.answers(0, ONE + "move 0 0\n" * 1025, wrong(1027))

    def test_kinds(self):
        for kind in range(16):
            text = TWO + f"mark b {kind} 7 8\nbase a {kind} 9 9\nbase b 5 1 1\n"
            self.answers(0, text, [0, 500, 0, -1])
            self.answers(1, text, [0, 600, 0, kind])

    def test_no_such_letter(self):
        self.answers(1, ONE, [-5])
        self.answers(2, TWO, [-5])
        self.answers(5, FULL, [-5])
        self.answers(4096, FULL, [-5])
        self.answers(4294967295, FULL, [-5])

    def test_wrong_font_comes_before_no_such_letter(self):
        for k in (0, 1, 2, 4294967295):
            self.answers(k, "", wrong(1))
            self.answers(k, HEAD, wrong(2))
            self.answers(k, ONE + "\n", wrong(3))
            self.answers(k, TWO + "wrong\n", wrong(4))
            self.answers(k, TWO + "char 1 a", wrong(4))

    def test_numbers_out_of_range_come_first(self):
        for text in (ONE, "", "wrong\n"):
            self.answers(-1, text, [-8])
            self.answers(4294967296, text, [-8])
        for k in (0, 1, 4294967295):
            self.assertEqual(letter(k, bytes_of(ONE) + [256]), [-8])
            self.assertEqual(letter(k, bytes_of("wrong\n") + [-1]), [-8])

    def test_letters_are_all_there(self):
        for text in (ONE, TWO, FULL):
            many = font(bytes_of(text))[0]
            for k in range(many):
                self.assertEqual(letter(k, bytes_of(text))[0], 0)
            self.answers(many, text, [-5])

    def test_what_is_handed_in_stays(self):
        for text in (FULL, ONE, HEAD, "", "wrong"):
            for k in (0, 3, 99):
                face = bytes_of(text)
                letter(k, face)
                self.assertEqual(face, bytes_of(text))

    def test_nothing_is_kept(self):
        first = letter(2, bytes_of(FULL))
        for text in (TWO, HEAD, "", FULL[:-1]):
            again = letter(0, bytes_of(text))
            self.assertEqual(letter(2, bytes_of(FULL)), first)
            self.assertEqual(letter(0, bytes_of(text)), again)

    def test_an_answer_is_the_callers_own(self):
        face = bytes_of(FULL)
        answer = letter(2, face)
        kept = list(answer)
        answer.clear()
        self.assertEqual(letter(2, face), kept)

    def test_whole_numbers_in_a_list(self):
        for k in (0, 3, 4, 5):
            answer = letter(k, bytes_of(FULL))
            self.assertIs(type(answer), list)
            self.assertEqual({type(number) for number in answer}, {int})


if __name__ == "__main__":
    unittest.main()
