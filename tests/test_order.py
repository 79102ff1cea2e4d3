"""Promise 5: order."""

import time
import unittest

from letterfall.page import levels, order
from tests.helper import CODES, all_of, codes, mixed


def slow_order(found):
    """The order seen of what has these levels: the stretch at the lowest level first, what's higher within it."""
    if not found:
        return []
    low = min(found)
    pieces = []
    place = 0
    while place < len(found):
        end = place
        while end < len(found) and found[end] > low:
            end += 1
        if end > place:
            pieces.append([place + inner for inner in slow_order(found[place:end])])
        if end < len(found):
            pieces.append([end])
        place = end + 1
    if low % 2 == 1:
        pieces = pieces[::-1]
    return [place for piece in pieces for place in piece]


class Order(unittest.TestCase):
    def answers(self, side, words, wanted):
        places = [int(word) for word in wanted.split()]
        self.assertEqual(order(side, codes(words)), [len(places)] + places, (side, words))

    def test_the_empty_text(self):
        for side in (0, 1, 2):
            self.assertEqual(order(side, []), [0])

    def test_sides(self):
        for text in ([], [97], [97, 10, 98]):
            for side in (0, 1, 2):
                self.assertEqual(order(side, text)[0], len(text))
            for side in (-1, 3, 4, 4294967295):
                self.assertEqual(order(side, text), [-8])

    def test_code_points(self):
        for code in (0, 55295, 57344, 1114111):
            self.assertEqual(order(0, [97, code]), [2, 0, 1])
        for code in (-1, 55296, 57343, 1114112, 4294967295):
            for side in (0, 1, 2, 3):
                self.assertEqual(order(side, [code]), [-8])
                self.assertEqual(order(side, [97, 10, code, 10]), [-8])
        self.assertEqual(order(0, [97] * 65537), [-8])

    def test_one_level_alone(self):
        self.answers(0, "L L L", "0 1 2")
        self.answers(1, "L L L", "0 1 2")
        self.answers(0, "R R R", "2 1 0")
        self.answers(1, "R R R", "2 1 0")
        self.answers(2, "R R R", "2 1 0")
        self.answers(1, "O O O", "2 1 0")
        self.answers(0, "O O O", "0 1 2")
        self.answers(1, "N N N", "0 1 2")

    def test_levels_within_levels(self):
        self.answers(0, "L R R L", "0 2 1 3")
        self.answers(1, "L L R R L", "4 3 2 0 1")
        self.answers(0, "L R R N N R L", "0 5 3 4 2 1 6")
        self.answers(0, "R R LI L L R R PI R", "8 7 3 4 6 5 2 1 0")
        self.answers(1, "RI R LI L L PI R PI R", "8 7 6 5 3 4 2 1 0")
        self.answers(0, "LI L RI R LI L L PI PI PI L", "0 1 2 7 5 6 4 3 8 9 10")

    def test_paragraphs(self):
        self.answers(0, "R R B R R", "1 0 2 4 3")
        self.answers(1, "R R B R R", "2 1 0 4 3")
        self.answers(1, "R R B R R B", "2 1 0 5 4 3")
        self.answers(2, "R L B L R B", "2 1 0 3 4 5")
        self.answers(2, "R R B", "2 1 0")
        self.answers(1, "B B", "0 1")
        self.answers(1, "O B B O", "1 0 2 3")
        self.answers(0, "B", "0")

    def test_all_short_texts(self):
        for names in all_of(["L", "R", "N", "O", "LI", "RI", "PI"], 4):
            self.check([CODES[name] for name in names])

    def test_many_mixed_texts(self):
        names = [name for name in CODES if name != "B"]
        for one in mixed(names, 300, 30) + mixed(["RI", "LI", "R", "L", "N", "FI", "PI"], 100, 120):
            self.check([CODES[name] for name in one])

    def check(self, text):
        for side in (0, 1, 2):
            self.assertEqual(order(side, text), [len(text)] + slow_order(levels(side, text)[1:]), (side, text))

    def test_long_texts_end_soon(self):
        texts = [[CODES[name]] * 30000 for name in CODES]
        texts.append(codes("RI LI") * 30 + codes("R N L") * 9980)
        texts.append(codes("R L") * 15000)
        texts.append((codes("RI LI") * 30 + codes("R N") + codes("PI") * 60) * 245)
        for text in texts:
            for side in (0, 1, 2):
                begun = time.monotonic()
                found = order(side, text)
                self.assertLess(time.monotonic() - begun, 5)
                self.assertEqual(sorted(found[1:]), list(range(len(text))))

    def test_what_is_handed_in_stays_and_nothing_is_kept(self):
        words = "L R A N M O LI R PI FI A B R O"
        text = codes(words)
        first = order(2, text)
        self.assertEqual(text, codes(words))
        for side, other in ((0, words), (1, "R"), (2, ""), (3, words)):
            order(side, codes(other))
            self.assertEqual(order(2, text), first)
        self.assertEqual(text, codes(words))

    def test_whole_numbers_in_a_list(self):
        for side in (0, 1, 2, 3):
            answer = order(side, codes("L R LI N PI M B"))
            self.assertIs(type(answer), list)
            self.assertEqual({type(number) for number in answer}, {int})


if __name__ == "__main__":
    unittest.main()
