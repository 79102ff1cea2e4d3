"""What several test files need: fonts' texts as lists of bytes, and names in number."""

HEAD = "font 1000 800 200 90\n"
ONE = HEAD + "letter a 500\n"
TWO = ONE + "letter b 600\n"

# Every kind of line, some of them among others' outlines.
FULL = """font 1000 800 200 90
letter none 500
move 0 0
line 500 0
line 500 700
letter a 520
letter b 530
move 10 -20
line 30 40
char 97 a
curve 50 60 70 80
move -5 5
line 6 7
char 98 b
letter acute 0
mark acute 3 -100 600
base a 3 260 500
base a 4 260 -10
base b 3 265 700
letter ab 990
move 1 1
join a b ab
join b a ab
pair a b -40
pair b a 15
pair a a 0
char 769 acute
mark ab 0 0 0
"""


def bytes_of(text):
    return list(text.encode("latin-1"))


def wrong(line):
    return [-2 - line]


def names(many):
    """So many different names, of three signs each."""
    signs = "abcdefghijklmnopqrstuvwxyz"
    found = []
    for number in range(many):
        found.append(signs[number // 676] + signs[number // 26 % 26] + signs[number % 26])
    return found


# One character of each class, and of some that have a letter's class but look unlike.
CODES = {"L": 97, "R": 1488, "A": 1576, "N": 49, "M": 769, "O": 33, "LI": 8294, "RI": 8295, "FI": 8296, "PI": 8297,
         "B": 10}


def codes(words):
    """A text, a character for each word: the name of its class."""
    return [CODES[word] for word in words.split()]


def all_of(names, longest):
    """Every list of these names, of any length up to the longest."""
    found = [[]]
    last = [[]]
    for length in range(longest):
        last = [begun + [name] for begun in last for name in names]
        found.extend(last)
    return found


def mixed(names, many, length):
    """So many lists of these names, so long each, mixed up but the same at any time."""
    seed = 12345
    found = []
    for number in range(many):
        one = []
        for place in range(length):
            seed = (seed * 1103515245 + 12345) % 2 ** 31
            one.append(names[(seed >> 12) % len(names)])
        found.append(one)
    return found


def drawn(outline, units=64):
    """A font of one letter; at size 64, with 64 units, a unit is a step."""
    return f"font {units} 0 0 0\nletter a 1\n" + "".join([line.strip() + "\n" for line in outline.split(",")])
