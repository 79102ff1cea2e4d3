"""The calls: each answers a list of whole numbers, or a refusal's number alone."""

from letterfall.codepoints import is_code_point, is_text
from letterfall.darkness import outline_darkness
from letterfall.fonttext import read_font
from letterfall.lineends import line_ends
from letterfall.outlines import outline_box
from letterfall.refusals import NoSuchLetter, OutOfRange, Refusal
from letterfall.seen import text_seen
from letterfall.shaping import shaped
from letterfall.ways import levels_of

MOST_BYTE = 255
MOST_HANDED_OVER = 4294967295
MOST_SIDE = 2
MOST_SIZE = 65536
MOST_HALVINGS = 4
MOST_LENGTH = 33554432
MOST_PIXELS_AWAY = 1024
MOST_PIXELS_WIDE = 64
LINE_FEED = 10
NO_MARK = -1


def need_range(number, least, most):
    if number < least or number > most:
        raise OutOfRange()


def need_text(text):
    if not is_text(text):
        raise OutOfRange()


def need_stretch(start, to, text):
    """Needs a stretch of one paragraph: a line feed may only be its last character."""
    need_range(to, 0, len(text))
    need_range(start, 0, to)
    if LINE_FEED in text[start:to][:-1]:
        raise OutOfRange()


def need_drawing(size, number, k):
    need_range(size, 1, MOST_SIZE)
    need_range(number, 0, MOST_HANDED_OVER)
    need_range(k, 0, MOST_HALVINGS)


def told_font(face):
    for byte in face:
        need_range(byte, 0, MOST_BYTE)
    return read_font(face)


def letter_in(told, number):
    if number >= len(told.letters):
        raise NoSuchLetter()
    return told.letters[number]


def font(face):
    """How many letters; U, A, D, G; how many characters, pairs, joins."""
    try:
        told = told_font(face)
    except Refusal as e:
        return [e.answer]
    counts = [len(told.chars), len(told.pairs), len(told.joins)]
    return [len(told.letters), told.units, told.up, told.down, told.gap] + counts


def letter(k, face):
    """0; the width of letter k, how many lines its outline has, its kind as a mark or -1."""
    try:
        need_range(k, 0, MOST_HANDED_OVER)
        found = letter_in(told_font(face), k)
    except Refusal as e:
        return [e.answer]
    kind = NO_MARK if found.mark is None else found.mark[0]
    return [0, found.width, len(found.outline), kind]


def char(c, face):
    """The number of code point c's letter; 0 where there's none."""
    try:
        if not is_code_point(c):
            raise OutOfRange()
        told = told_font(face)
    except Refusal as e:
        return [e.answer]
    return [told.chars.get(c, 0)]


def levels(side, text):
    """How many characters; each one's level."""
    try:
        need_range(side, 0, MOST_SIDE)
        need_text(text)
    except Refusal as e:
        return [e.answer]
    return [len(text)] + levels_of(text, side)


def order(side, text):
    """How many characters; their places in the order seen, paragraph by paragraph."""
    try:
        need_range(side, 0, MOST_SIDE)
        need_text(text)
    except Refusal as e:
        return [e.answer]
    return [len(text)] + text_seen(text, side)


def shape(size, side, start, to, face, text):
    """How many letters a stretch has; number, place, x, y, room, level of each as seen; x behind the last."""
    try:
        need_range(size, 1, MOST_SIZE)
        need_range(side, 0, MOST_SIDE)
        need_text(text)
        need_stretch(start, to, text)
        told = told_font(face)
    except Refusal as e:
        return [e.answer]
    return shaped(told, size, side, start, to, text)


def breaks(text):
    """How many characters; for each 0, 1 or 2: behind it a line may not, may or must end."""
    try:
        need_text(text)
    except Refusal as e:
        return [e.answer]
    return [len(text)] + line_ends(text)


def cover(size, number, x, y, k, left, top, wide, high, face):
    """0; how dark each pixel is, row by row."""
    try:
        need_drawing(size, number, k)
        for length in (x, y):
            need_range(length, -MOST_LENGTH, MOST_LENGTH)
        for place in (left, top):
            need_range(place, -MOST_PIXELS_AWAY, MOST_PIXELS_AWAY)
        for many in (wide, high):
            need_range(many, 1, MOST_PIXELS_WIDE)
        told = told_font(face)
        outline = letter_in(told, number).outline
    except Refusal as e:
        return [e.answer]
    return [0] + outline_darkness(outline, told.units, size, x, y, k, left, top, wide, high)


def box(size, number, k, face):
    """0; left, top, right, bottom of the pixels in which the points of a letter's outline lie."""
    try:
        need_drawing(size, number, k)
        told = told_font(face)
        outline = letter_in(told, number).outline
    except Refusal as e:
        return [e.answer]
    return [0] + outline_box(outline, told.units, size, k)
