"""Promise 3: char."""

import unittest

from letterfall.page import char
from tests.helper import FULL, HEAD, ONE, TWO, bytes_of, wrong


class Char(unittest.TestCase):
    def answers(self, c, text, answer):
        self.assertEqual(char(c, bytes_of(text)), answer)

    def test_characters_that_the_font_has(self):
        self.answers(97, FULL, [1])
        self.answers(98, FULL, [2])
        self.answers(769, FULL, [3])

    def test_characters_that_it_lacks(self):
        for c in (0, 96, 99, 768, 770, 1114111):
            self.answers(c, FULL, [0])
            self.answers(c, ONE, [0])

    def test_the_first_letter_may_have_characters(self):
        self.answers(97, TWO + "char 97 a\nchar 98 b\n", [0])
        self.answers(98, TWO + "char 97 a\nchar 98 b\n", [1])

    def test_several_characters_of_one_letter(self):
        text = TWO + "char 5 b\nchar 6 b\nletter c 1\nchar 7 b\n"
        for c in (5, 6, 7):
            self.answers(c, text, [1])

    def test_edges_of_what_a_text_may_have(self):
        for c in (0, 55295, 57344, 1114111):
            self.answers(c, ONE, [0])
            self.answers(c, TWO + f"char {c} b\n", [1])
        for c in (55296, 55297, 56320, 57342, 57343, 1114112, 1114113, 4294967295):
            self.answers(c, ONE, [-8])
            self.answers(c, FULL, [-8])

    def test_a_wrong_font(self):
        for c in (0, 97, 55295, 57344, 1114111):
            self.answers(c, "", wrong(1))
            self.answers(c, HEAD, wrong(2))
            self.answers(c, ONE + "\n", wrong(3))
            self.answers(c, ONE + "char 97 b\n", wrong(3))
            self.answers(c, TWO + "char 97 b", wrong(4))

    def test_numbers_out_of_range_come_first(self):
        for c in (-1, 55296, 57343, 1114112, 4294967295, 4294967296):
            for text in ("", HEAD, "wrong\n", ONE + "wrong\n"):
                self.answers(c, text, [-8])
        for byte in (-1, 256):
            self.assertEqual(char(97, bytes_of(FULL) + [byte]), [-8])
            self.assertEqual(char(97, bytes_of("wrong\n") + [byte]), [-8])

    def test_a_refusal_that_looks_like_another(self):
        self.answers(97, ONE + "wrong\n", [-5])

    def test_many_characters(self):
        text = TWO + "".join([f"char {code} b\n" for code in range(7000)])
        self.answers(6999, text, [1])
        self.answers(7000, text, [0])

    def test_what_is_handed_in_stays_and_nothing_is_kept(self):
        face = bytes_of(FULL)
        first = char(98, face)
        self.assertEqual(face, bytes_of(FULL))
        for c, text in ((98, TWO), (98, ""), (55296, FULL), (1, FULL)):
            char(c, bytes_of(text))
            self.assertEqual(char(98, face), first)

    def test_whole_numbers_in_a_list(self):
        for c in (97, 1, 55296):
            answer = char(c, bytes_of(FULL))
            self.assertIs(type(answer), list)
            self.assertEqual([type(number) for number in answer], [int])


if __name__ == "__main__":
    unittest.main()
