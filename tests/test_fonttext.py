"""What a font's text may hold: every edge and every wrong line, told by both calls."""

import unittest

from letterfall.fonttext import read_font
from letterfall.page import font, letter
from tests.helper import FULL, HEAD, ONE, TWO, bytes_of, names, wrong


class FontTextCase(unittest.TestCase):
    def right(self, text):
        answer = font(bytes_of(text))
        self.assertEqual(len(answer), 8, (text[-80:], answer))
        self.assertEqual(letter(0, bytes_of(text))[0], 0)

    def wrong_at(self, line, text):
        self.assertEqual(font(bytes_of(text)), wrong(line), text[-80:])
        self.assertEqual(letter(0, bytes_of(text)), wrong(line), text[-80:])

    def wrong_last(self, text):
        """Wrong is the last line, whether or not something right stands behind it."""
        line = text.count("\n")
        self.wrong_at(line, text)
        self.wrong_at(line, text + "letter behind 1\n")
        self.wrong_at(line, text + "this is wrong too\n")

    def check_range(self, form, least, most):
        """form's last line has an N where a number from least to most may stand."""
        for number in (least, least + 1, most - 1, most):
            self.right(form.replace("N", str(number)) + "letter behind 1\n")
        for number in (least - 1, most + 1, -(10 ** 9), 10 ** 9, 2 ** 32 + most, 10 ** 30):
            self.wrong_last(form.replace("N", str(number)))

    def check_spelling(self, form):
        """form's last line has an N where 1 and 10 may stand, but no other spelling of them."""
        self.right(form.replace("N", "1") + "letter behind 1\n")
        self.right(form.replace("N", "10") + "letter behind 1\n")
        for word in ("01", "001", "010", "00", "-0", "-00", "-01", "+1", "--1", "-", "1-", "1.0", "1_0",
                     "1e1", "0x1", "a", "_", "1a", "?", "\t1", "\xb9", "\xb2"):
            self.wrong_last(form.replace("N", word))


class Lines(FontTextCase):
    def test_no_lines(self):
        self.wrong_at(1, "")

    def test_no_letter(self):
        self.wrong_at(2, HEAD)

    def test_one_letter_is_enough(self):
        self.right(ONE)

    def test_last_line_without_its_end(self):
        self.wrong_at(1, HEAD[:-1])
        self.wrong_at(2, ONE[:-1])
        self.wrong_at(3, ONE + "char 97 a")
        self.wrong_at(3, ONE + "m")
        self.wrong_at(3, ONE + " ")
        self.wrong_at(len(FULL.splitlines()), FULL[:-1])

    def test_wrong_line_comes_before_an_unended_one(self):
        self.wrong_at(2, HEAD + "wrong\nletter a 1")

    def test_empty_lines(self):
        self.wrong_at(1, "\n")
        self.wrong_at(1, "\n" + ONE)
        self.wrong_at(2, HEAD + "\nletter a 500\n")
        self.wrong_at(3, ONE + "\n")
        self.wrong_at(1, "\n" * 100000)

    def test_blanks(self):
        self.wrong_at(1, " " + ONE)
        self.wrong_at(1, HEAD[:-1] + " \nletter a 500\n")
        self.wrong_at(1, ONE.replace("font ", "font  "))
        for line in (" letter b 1", "letter b 1 ", "letter  b 1", "letter b  1", " ", "  ",
                     "char 97 a ", " char 97 a", "char  97 a", "move 0  0", "move 0 0 "):
            self.wrong_last(ONE + line + "\n")
        self.wrong_at(1, " " * 100000)

    def test_first_line_is_font(self):
        self.wrong_at(1, "letter a 500\n")
        self.wrong_at(1, "letter a 500\n" + HEAD)
        self.wrong_at(1, "Font 1000 800 200 90\nletter a 500\n")
        self.wrong_at(1, "wrong\nwrong\n")
        self.wrong_at(1, "curve 1000 800 200 90\nletter a 500\n")
        self.wrong_at(1, "a 1000 800 200 90\nletter a 500\n")

    def test_font_stands_once(self):
        self.wrong_last(HEAD + HEAD)
        self.wrong_last(ONE + HEAD)
        self.wrong_last(ONE + "font 1 0 0 0\n")

    def test_unknown_words(self):
        for line in ("x", "letters b 1", "lette b 1", "Letter b 1", "LETTER b 1", "# a remark", "1",
                     "-", "a", "a 500", "none 0 0", "close", "?", "b a 1"):
            self.wrong_last(ONE + line + "\n")

    def test_too_few_and_too_many_words(self):
        self.wrong_at(1, "font\nletter a 1\n")
        self.wrong_at(1, "font 1 0 0\nletter a 1\n")
        self.wrong_at(1, "font 1 0 0 0 0\nletter a 1\n")
        right = ("letter c 1", "move 1 2", "line 1 2", "curve 1 2 3 4", "char 97 a", "pair a b 1",
                 "join a b a", "base a 1 2 3", "mark a 1 2 3")
        begun = TWO + "move 0 0\n"
        for line in right:
            self.right(begun + line + "\n")
            words = line.split(" ")
            self.wrong_last(begun + words[0] + "\n")
            self.wrong_last(begun + " ".join(words[:-1]) + "\n")
            for more in (words[-1], "1", "a", "0 0"):
                self.wrong_last(begun + line + " " + more + "\n")

    def test_bytes_that_no_line_has(self):
        others = [byte for byte in range(256) if byte < 32 and byte != 10 or byte > 126]
        for byte in others:
            for line in (b"letter b\xff 1\n", b"letter b 1\xff\n", b"\xff\n", b"letter\xffb 1\n", b"\xffletter b 1\n"):
                text = ONE + line.decode("latin-1").replace("\xff", bytes([byte]).decode("latin-1"))
                self.wrong_at(3, text)
            self.wrong_at(3, ONE + bytes([byte]).decode("latin-1"))
            self.wrong_at(1, bytes([byte]).decode("latin-1") + ONE)

    def test_all_other_bytes_in_a_name(self):
        for byte in range(33, 127):
            sign = bytes([byte]).decode("latin-1")
            if sign in "abcdefghijklmnopqrstuvwxyz0123456789_":
                self.right(ONE + "letter b" + sign + " 1\n")
            else:
                self.wrong_last(ONE + "letter b" + sign + " 1\n")

    def test_long_lines(self):
        self.wrong_at(2, HEAD + "letter a " + "1" * 90000 + "\n")
        self.wrong_at(2, HEAD + "letter a " + "0" * 90000 + "\n")
        self.wrong_at(2, HEAD + "letter a -" + "1" * 90000 + "\n")
        self.wrong_at(2, HEAD + "letter " + "a" * 90000 + " 1\n")
        self.wrong_at(2, HEAD + "letter a" + " 1" * 40000 + "\n")
        self.wrong_at(1, "a" * 100000)


class Numbers(FontTextCase):
    def test_units(self):
        self.check_range("font N 1 1 1\n", 1, 16384)

    def test_heights_and_gap(self):
        for form in ("font 1 N 0 0\n", "font 1 0 N 0\n", "font 1 0 0 N\n"):
            self.check_range(form, 0, 32767)

    def test_width(self):
        self.check_range(HEAD + "letter a N\n", 0, 32767)
        self.check_range(ONE + "letter b N\n", 0, 32767)

    def test_outlines(self):
        for line in ("move N 0", "move 0 N", "line N 0", "line 0 N", "curve N 0 0 0", "curve 0 N 0 0",
                     "curve 0 0 N 0", "curve 0 0 0 N"):
            self.check_range(ONE + "move 0 0\n" + line + "\n", -32768, 32767)

    def test_pair(self):
        self.check_range(TWO + "pair a b N\n", -32768, 32767)

    def test_kinds(self):
        self.check_range(ONE + "base a N 0 0\n", 0, 15)
        self.check_range(ONE + "mark a N 0 0\n", 0, 15)

    def test_spots(self):
        for line in ("base a 0 N 0", "base a 0 0 N", "mark a 0 N 0", "mark a 0 0 N"):
            self.check_range(ONE + line + "\n", -32768, 32767)

    def test_code_points(self):
        self.check_range(ONE + "char N a\n", 0, 1114111)
        for code in (32767, 32768, 55295, 57344, 65535, 65536):
            self.right(ONE + "char " + str(code) + " a\n")
        for code in (55296, 55297, 56319, 56320, 57342, 57343):
            self.wrong_last(ONE + "char " + str(code) + " a\n")

    def test_spelling(self):
        for form in ("font N 0 0 0", "font 1 N 0 0", "font 1 0 N 0", "font 1 0 0 N"):
            self.check_spelling(form + "\n")
        for line in ("letter c N", "move N 0", "move 0 N", "line N 0", "line 0 N", "curve N 0 0 0",
                     "curve 0 N 0 0", "curve 0 0 N 0", "curve 0 0 0 N", "char N a", "pair a b N",
                     "base a N 0 0", "base a 0 N 0", "base a 0 0 N", "mark a N 0 0", "mark a 0 N 0", "mark a 0 0 N"):
            self.check_spelling(TWO + "move 0 0\n" + line + "\n")

    def test_below_nought(self):
        self.right(ONE + "move -1 -10\n")
        for word in ("-01", "-010", "-0", "- 1", "-+1", "1-1", "--1"):
            self.wrong_last(ONE + "move " + word + " 0\n")


class Names(FontTextCase):
    def test_lengths(self):
        for name in ("a", "z", "ab", "a" * 30, "a" * 31, "a" + "_" * 30, "z9_"):
            self.right(HEAD + "letter " + name + " 1\nchar 97 " + name + "\n")
        for name in ("a" * 32, "a" * 33, "a" * 64):
            self.wrong_last(HEAD + "letter " + name + " 1\n")
        self.wrong_last(HEAD + "letter  1\n")

    def test_first_sign_is_a_letter(self):
        for name in ("0", "9", "_", "0a", "9a", "_a", "-a", "A", "Aa", "-"):
            self.wrong_last(HEAD + "letter " + name + " 1\n")

    def test_names_of_lines_are_names(self):
        for name in ("font", "letter", "move", "line", "curve", "char", "pair", "join", "base", "mark"):
            self.right(HEAD + "letter " + name + " 1\nchar 1 " + name + "\n")

    def test_long_names_that_begin_alike(self):
        self.right(HEAD + "letter " + "a" * 30 + "b 1\nletter " + "a" * 30 + "c 1\nletter " + "a" * 30 + " 1\n")

    def test_names_are_told_before(self):
        for line in ("char 97 N", "pair N a 1", "pair a N 1", "join N a a", "join a N a", "join a a N",
                     "base N 0 0 0", "mark N 0 0 0"):
            self.right(ONE + line.replace("N", "a") + "\n")
            self.right(TWO + line.replace("N", "b") + "\n")
            self.wrong_at(3, ONE + line.replace("N", "b") + "\nletter b 1\n")
            for name in ("c", "aa", "A", "0", "1", "_", "a_", "?", "-1"):
                self.wrong_last(TWO + line.replace("N", name) + "\n")

    def test_nothing_but_letters_before_the_first_letter(self):
        for line in ("move 0 0", "line 0 0", "curve 0 0 0 0", "char 97 a", "pair a a 1", "join a a a",
                     "base a 0 0 0", "mark a 0 0 0"):
            self.wrong_at(2, HEAD + line + "\nletter a 1\n")


class Outlines(FontTextCase):
    def test_line_and_curve_stand_behind_others(self):
        for first in ("line 0 0\n", "curve 0 0 0 0\n"):
            self.wrong_last(ONE + first)
            self.wrong_at(3, ONE + first + "move 0 0\n")
            self.right(ONE + "move 0 0\n" + first)
            self.right(ONE + "move 0 0\nline 1 1\n" + first)
            self.right(ONE + "move 0 0\ncurve 1 1 1 1\n" + first)
            self.right(ONE + "move 0 0\nmove 0 0\n" + first)

    def test_of_the_same_letter(self):
        for first in ("line 0 0\n", "curve 0 0 0 0\n"):
            self.wrong_last(ONE + "move 0 0\nline 1 1\nletter b 1\n" + first)
            self.wrong_last(ONE + "move 0 0\nletter b 1\n" + first)
            self.right(ONE + "move 0 0\nletter b 1\nmove 0 0\n" + first)

    def test_other_lines_between(self):
        for between in ("char 97 a", "pair a a 1", "join a a a", "base a 0 0 0", "mark a 0 0 0"):
            self.right(ONE + "move 0 0\n" + between + "\nline 1 1\n")
            self.right(ONE + between + "\nmove 0 0\ncurve 1 1 2 2\n")
            self.wrong_last(ONE + between + "\nline 1 1\n")

    def test_most_lines_of_a_letter(self):
        full = ONE + "move 0 0\n" + "line 1 1\n" * 1000 + "curve 1 1 2 2\n" * 20 + "move 0 0\n" * 3
        self.right(full)
        for line in ("move 0 0\n", "line 0 0\n", "curve 0 0 0 0\n"):
            self.wrong_last(full + line)
            self.wrong_last(full + "char 97 a\n" + line)
        self.right(full + "char 97 a\n")
        self.right(full + "letter b 1\n" + "move 0 0\n" * 1024)
        self.wrong_last(full + "letter b 1\n" + "move 0 0\n" * 1025)


class Once(FontTextCase):
    def test_letter(self):
        self.wrong_last(ONE + "letter a 500\n")
        self.wrong_last(ONE + "letter a 1\n")
        self.wrong_last(TWO + "letter a 1\n")
        self.wrong_last(TWO + "letter b 1\n")

    def test_char(self):
        self.wrong_last(TWO + "char 97 a\nchar 97 a\n")
        self.wrong_last(TWO + "char 97 a\nchar 97 b\n")
        self.right(TWO + "char 97 a\nchar 98 a\n")

    def test_pair(self):
        self.wrong_last(TWO + "pair a b 1\npair a b 1\n")
        self.wrong_last(TWO + "pair a b 1\npair a b 2\n")
        self.wrong_last(TWO + "pair a a 0\npair a a 0\n")
        self.right(TWO + "pair a b 1\npair b a 1\npair a a 1\npair b b 1\n")

    def test_join(self):
        self.wrong_last(TWO + "join a b a\njoin a b a\n")
        self.wrong_last(TWO + "join a b a\njoin a b b\n")
        self.right(TWO + "join a b a\njoin b a a\njoin a a a\njoin b b a\n")

    def test_pair_and_join_of_the_same_two(self):
        self.right(TWO + "pair a b 1\njoin a b b\n")

    def test_base(self):
        self.wrong_last(TWO + "base a 3 1 1\nbase a 3 1 1\n")
        self.wrong_last(TWO + "base a 3 1 1\nbase a 3 2 2\n")
        self.wrong_last(TWO + "base a 0 0 0\nbase a 1 0 0\nbase a 0 0 0\n")
        self.right(TWO + "base a 3 1 1\nbase b 3 1 1\n")
        self.right(TWO + "".join([f"base a {kind} 1 1\n" for kind in range(16)]))

    def test_mark(self):
        self.wrong_last(TWO + "mark a 3 1 1\nmark a 3 1 1\n")
        self.wrong_last(TWO + "mark a 3 1 1\nmark a 4 1 1\n")
        self.wrong_last(TWO + "mark a 0 0 0\nmark a 0 0 0\n")
        self.right(TWO + "mark a 3 1 1\nmark b 3 1 1\n")

    def test_base_and_mark_of_the_same_letter(self):
        self.right(TWO + "mark a 3 1 1\nbase a 3 1 1\nbase a 4 1 1\n")


class Limits(FontTextCase):
    def test_most_letters(self):
        full = HEAD + "".join(["letter " + name + " 1\n" for name in names(4096)])
        self.assertEqual(font(bytes_of(full)), [4096, 1000, 800, 200, 90, 0, 0, 0])
        self.assertEqual(letter(4095, bytes_of(full)), [0, 1, 0, -1])
        self.assertEqual(letter(4096, bytes_of(full)), [-5])
        self.right(full + "char 97 aaa\n")
        self.wrong_last(full + "letter more 1\n")
        self.wrong_last(full + "char 97 aaa\nletter more 1\n")

    def lines_in_number(self, many):
        """A right font of so many lines but for the limit on them, 2 and more."""
        parts = [HEAD]
        told = names(100)
        left = many - 1
        while left > 0:
            moves = min(left - 1, 1024)
            parts.append("letter " + told.pop() + " 1\n" + "move 0 0\n" * moves)
            left = left - 1 - moves
        return "".join(parts)

    def test_most_lines(self):
        self.right(self.lines_in_number(65536))
        self.wrong_at(65537, self.lines_in_number(65537))
        self.wrong_at(65537, self.lines_in_number(65540))

    def test_most_bytes(self):
        line = "curve -32768 -32768 -32768 -32768\n"
        text = HEAD
        for name in names(30):
            text += "letter " + name + " 1\nmove 0 0\n" + line * 1023
        text += "letter last 1\n"
        text += "move 0 0\n" * ((1048576 - len(text) - len("letter x 1\n")) // len("move 0 0\n"))
        signs = 1048576 - len(text) - len("letter  1\n")
        at_most = text + "letter " + "x" * signs + " 1\n"
        self.assertEqual(len(at_most), 1048576)
        self.right(at_most)
        beyond = text + "letter " + "x" * (signs + 1) + " 1\n"
        self.assertEqual(len(beyond), 1048577)
        self.wrong_last(beyond)

    def test_as_long_as_may_be_handed_in(self):
        text = HEAD
        for name in names(11):
            text += "letter " + name + " 1\n" + "move 0 0\n" * 1000
        text = text[:100000]
        text = text[:text.rfind("\n") + 1]
        self.right(text)


class Kept(unittest.TestCase):
    def test_what_is_read_is_kept(self):
        found = read_font(bytes_of(FULL))
        self.assertEqual(found.numbers, {"none": 0, "a": 1, "b": 2, "acute": 3, "ab": 4})
        self.assertEqual(found.chars, {97: 1, 98: 2, 769: 3})
        self.assertEqual(found.pairs, {(1, 2): -40, (2, 1): 15, (1, 1): 0})
        self.assertEqual(found.joins, {(1, 2): 4, (2, 1): 4})
        self.assertEqual(found.letters[1].bases, {3: (260, 500), 4: (260, -10)})
        self.assertEqual(found.letters[3].mark, (3, -100, 600))
        self.assertEqual(found.letters[2].outline, [
            ("move", [10, -20]), ("line", [30, 40]), ("curve", [50, 60, 70, 80]), ("move", [-5, 5]), ("line", [6, 7])])


if __name__ == "__main__":
    unittest.main()
