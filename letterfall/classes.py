"""Each character's class: what it does to the way in which a text is read."""

# Class, first and last code point, in the document's order: the last row that fits holds,
# so marks may stand in the middle of a row of letters. What a row is without is cut out.
ROWS = (
    ("L", 65, 90),
    ("L", 97, 122),
    ("L", 170, 170),
    ("L", 181, 181),
    ("L", 186, 186),
    ("L", 192, 214),
    ("L", 216, 246),
    ("L", 248, 687),
    ("L", 880, 1423),
    ("L", 2304, 8191),
    ("L", 11264, 12287),
    ("L", 12293, 55295),
    ("L", 63744, 64255),
    ("L", 65536, 67583),
    ("L", 69632, 1114111),
    ("R", 1424, 1535),
    ("R", 1984, 2303),
    ("R", 64285, 64335),
    ("R", 67584, 69631),
    ("A", 1536, 1631),
    ("A", 1642, 1775),
    ("A", 1786, 1983),
    ("A", 64336, 65023),
    ("A", 65136, 65278),
    ("N", 48, 57),
    ("N", 1632, 1641),
    ("N", 1776, 1785),
    ("M", 768, 879),
    ("M", 1425, 1469),
    ("M", 1611, 1631),
    ("M", 8400, 8447),
    ("LI", 8294, 8294),
    ("RI", 8295, 8295),
    ("FI", 8296, 8296),
    ("PI", 8297, 8297),
    ("B", 10, 10),
)

STRONG = ("L", "R", "A")
PUSHING = ("LI", "RI", "FI")
WITHOUT_LETTERS = ("LI", "RI", "FI", "PI", "B")


def class_of(code):
    found = "O"
    for row in ROWS:
        if row[1] <= code <= row[2]:
            found = row[0]
    return found


def classes_of(text):
    # Long texts have few different characters: each is looked up once.
    known = {}
    classes = []
    for code in text:
        if code not in known:
            known[code] = class_of(code)
        classes.append(known[code])
    return classes
