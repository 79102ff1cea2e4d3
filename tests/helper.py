"""What several test files need: fonts' texts as lists of bytes, and names in number."""

HEAD = "font 1000 800 200 90\n"
ONE = HEAD + "letter a 500\n"
TWO = ONE + "letter b 600\n"

# Every kind of line, some of them among others' outlines.
FULL = """font 1000 800 200 90
letter none 500
move 0 0
line 500 0
line 500 700
letter a 520
letter b 530
move 10 -20
line 30 40
char 97 a
curve 50 60 70 80
move -5 5
line 6 7
char 98 b
letter acute 0
mark acute 3 -100 600
base a 3 260 500
base a 4 260 -10
base b 3 265 700
letter ab 990
move 1 1
join a b ab
join b a ab
pair a b -40
pair b a 15
pair a a 0
char 769 acute
mark ab 0 0 0
"""


def bytes_of(text):
    return list(text.encode("latin-1"))


def wrong(line):
    return [-2 - line]


def names(many):
    """So many different names, of three signs each."""
    signs = "abcdefghijklmnopqrstuvwxyz"
    found = []
    for number in range(many):
        found.append(signs[number // 676] + signs[number // 26 % 26] + signs[number % 26])
    return found
