"""Each class's first and last code point, one before and one behind."""

import unittest

from letterfall.classes import class_of
from letterfall.page import levels
from tests.helper import CODES

# First code point, last one, class; what's in no row is O. Told one behind another, each code point once.
TABLE = """
0 9 O
10 10 B
11 47 O
48 57 N
58 64 O
65 90 L
91 96 O
97 122 L
123 169 O
170 170 L
171 180 O
181 181 L
182 185 O
186 186 L
187 191 O
192 214 L
215 215 O
216 246 L
247 247 O
248 687 L
688 767 O
768 879 M
880 1423 L
1424 1424 R
1425 1469 M
1470 1535 R
1536 1610 A
1611 1631 M
1632 1641 N
1642 1775 A
1776 1785 N
1786 1983 A
1984 2303 R
2304 8191 L
8192 8293 O
8294 8294 LI
8295 8295 RI
8296 8296 FI
8297 8297 PI
8298 8399 O
8400 8447 M
8448 11263 O
11264 12287 L
12288 12292 O
12293 55295 L
57344 63743 O
63744 64255 L
64256 64284 O
64285 64335 R
64336 65023 A
65024 65135 O
65136 65278 A
65279 65535 O
65536 67583 L
67584 69631 R
69632 1114111 L
"""

LETTER = CODES["L"]
RIGHT = CODES["R"]
ARABIC = CODES["A"]
DIGIT = CODES["N"]
OTHER = CODES["O"]
BEGIN = CODES["LI"]
END = CODES["PI"]


def traits(code):
    """What the code point does in some places; only R and A do the same in all of these (and anywhere)."""
    return [
        levels(0, [RIGHT, code, RIGHT]),
        levels(1, [LETTER, code, LETTER]),
        levels(0, [RIGHT, code]),
        levels(0, [code, DIGIT]),
        levels(1, [code, DIGIT]),
        levels(0, [ARABIC, code, DIGIT]),
        levels(0, [OTHER, RIGHT, code, OTHER]),
        levels(2, [code, LETTER, END, RIGHT]),
        levels(2, [code, RIGHT, END, LETTER]),
        levels(2, [OTHER, code]),
        levels(0, [BEGIN, code]),
    ]


def rows():
    for line in TABLE.split("\n"):
        if line:
            first, last, name = line.split()
            yield int(first), int(last), name


class Classes(unittest.TestCase):
    def test_the_traits_tell_classes_apart(self):
        seen = [traits(code) for name, code in CODES.items() if name != "A"]
        for number, one in enumerate(seen):
            self.assertNotIn(one, seen[:number])
        self.assertEqual(traits(CODES["A"]), traits(CODES["R"]))

    def test_every_edge(self):
        for first, last, name in rows():
            wanted = traits(CODES[name])
            for code in (first, first + 1, (first + last) // 2, last - 1, last):
                if first <= code <= last:
                    self.assertEqual(class_of(code), name, code)
                    self.assertEqual(traits(code), wanted, (code, name))

    def test_the_table_leaves_nothing_out(self):
        behind = 0
        for first, last, name in rows():
            self.assertEqual(first, 57344 if behind == 55296 else behind)
            behind = last + 1
        self.assertEqual(behind, 1114112)


if __name__ == "__main__":
    unittest.main()
