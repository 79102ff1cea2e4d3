"""Reads a font's text strictly: every line is right, or the first wrong one is told."""

from letterfall.codepoints import MOST_CODE_POINT, is_code_point
from letterfall.faces import Font, Letter
from letterfall.refusals import WrongFont

MOST_BYTES = 1048576
MOST_LINES = 65536
MOST_LETTERS = 4096
MOST_OUTLINE_LINES = 1024
MOST_NAME_SIGNS = 31
MOST_UNITS = 16384
LEAST_NUMBER = -32768
MOST_NUMBER = 32767
MOST_KIND = 15
# No code point's number has more digits; Python itself refuses to read very long ones.
MOST_DIGITS = 7

SMALL_LETTERS = "abcdefghijklmnopqrstuvwxyz"
NAME_SIGNS = "abcdefghijklmnopqrstuvwxyz0123456789_"
LINE_SIGNS = "abcdefghijklmnopqrstuvwxyz0123456789_- \n"
# No right line has this sign, so it can stand for every byte that no right line has.
STRANGE_SIGN = "?"

WORDS_IN_LINE = {
    "font": 5,
    "letter": 3,
    "move": 3,
    "line": 3,
    "curve": 5,
    "char": 3,
    "pair": 4,
    "join": 4,
    "base": 5,
    "mark": 5,
}


class WrongLine(Exception):
    """The line that is being read isn't right."""


def text_of(face):
    signs = {}
    for sign in LINE_SIGNS:
        signs[ord(sign)] = sign
    return "".join([signs.get(byte, STRANGE_SIGN) for byte in face])


def whole_number(word, least, most):
    digits = word[1:] if word.startswith("-") else word
    if not digits.isdigit() or len(digits) > MOST_DIGITS:
        raise WrongLine()
    # This takes -0 too: 0 isn't below 0.
    if digits.startswith("0") and word != "0":
        raise WrongLine()
    number = int(word)
    if number < least or number > most:
        raise WrongLine()
    return number


def plain_numbers(words):
    return [whole_number(word, LEAST_NUMBER, MOST_NUMBER) for word in words]


def code_point(word):
    number = whole_number(word, 0, MOST_CODE_POINT)
    if not is_code_point(number):
        raise WrongLine()
    return number


def is_name(word):
    if word == "" or len(word) > MOST_NAME_SIGNS:
        return False
    return word[0] in SMALL_LETTERS and all([sign in NAME_SIGNS for sign in word])


def letter_number(font, word):
    number = font.numbers.get(word)
    if number is None:
        raise WrongLine()
    return number


def keep_once(table, key, value):
    if key in table:
        raise WrongLine()
    table[key] = value


def words_of(line):
    words = line.split(" ")
    if len(words) != WORDS_IN_LINE.get(words[0]):
        raise WrongLine()
    return words


def read_head(words):
    if words[0] != "font":
        raise WrongLine()
    units = whole_number(words[1], 1, MOST_UNITS)
    heights = [whole_number(word, 0, MOST_NUMBER) for word in words[2:]]
    return Font(units, heights[0], heights[1], heights[2])


def read_letter(font, words):
    if not is_name(words[1]) or len(font.letters) == MOST_LETTERS:
        raise WrongLine()
    width = whole_number(words[2], 0, MOST_NUMBER)
    keep_once(font.numbers, words[1], len(font.letters))
    font.letters.append(Letter(width))


def read_outline(font, words):
    if not font.letters:
        raise WrongLine()
    outline = font.letters[-1].outline
    if len(outline) == MOST_OUTLINE_LINES:
        raise WrongLine()
    # Each outline begins with a move, so any line of it that's there already is enough.
    if words[0] != "move" and not outline:
        raise WrongLine()
    outline.append((words[0], plain_numbers(words[1:])))


def read_char(font, words):
    keep_once(font.chars, code_point(words[1]), letter_number(font, words[2]))


def read_pair(font, words):
    key = (letter_number(font, words[1]), letter_number(font, words[2]))
    keep_once(font.pairs, key, whole_number(words[3], LEAST_NUMBER, MOST_NUMBER))


def read_join(font, words):
    key = (letter_number(font, words[1]), letter_number(font, words[2]))
    keep_once(font.joins, key, letter_number(font, words[3]))


def read_base(font, words):
    owner = font.letters[letter_number(font, words[1])]
    kind = whole_number(words[2], 0, MOST_KIND)
    spot = plain_numbers(words[3:])
    keep_once(owner.bases, kind, (spot[0], spot[1]))


def read_mark(font, words):
    owner = font.letters[letter_number(font, words[1])]
    kind = whole_number(words[2], 0, MOST_KIND)
    spot = plain_numbers(words[3:])
    if owner.mark is not None:
        raise WrongLine()
    owner.mark = (kind, spot[0], spot[1])


READERS = {
    "letter": read_letter,
    "move": read_outline,
    "line": read_outline,
    "curve": read_outline,
    "char": read_char,
    "pair": read_pair,
    "join": read_join,
    "base": read_base,
    "mark": read_mark,
}


def read_line(font, line):
    """Gives back the font, which the first line alone makes: before it, it is None."""
    words = words_of(line)
    if font is None:
        return read_head(words)
    reader = READERS.get(words[0])
    # A second line of the first line's kind has no reader.
    if reader is None:
        raise WrongLine()
    reader(font, words)
    return font


def read_font(face):
    """The font that a list of bytes tells; WrongFont, if one of its lines isn't right."""
    pieces = text_of(face).split("\n")
    font = None
    length = 0
    for number, line in enumerate(pieces[:-1], start=1):
        length += len(line) + 1
        if number > MOST_LINES or length > MOST_BYTES:
            raise WrongFont(number)
        try:
            font = read_line(font, line)
        except WrongLine:
            raise WrongFont(number) from None
    # The last piece is what's behind the last 10: a line without its own, or else
    # nothing, and its number is then that of the line behind the last.
    if pieces[-1] != "" or font is None or not font.letters:
        raise WrongFont(len(pieces))
    return font
