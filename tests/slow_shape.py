"""Shape once more, slowly: letter by letter through the whole stretch, with exact fractions."""

from fractions import Fraction
from math import floor

SWAPPED = {40: 41, 41: 40, 60: 62, 62: 60, 91: 93, 93: 91, 123: 125, 125: 123}
LETTERLESS = (8294, 8295, 8296, 8297, 10)


class SlowFont:
    """A right font's text, read with no care."""

    def __init__(self, text):
        self.names, self.widths, self.chars = [], {}, {}
        self.pairs, self.joins, self.bases, self.marks = {}, {}, {}, {}
        for words in [line.split() for line in text.splitlines()]:
            numbers = [int(word) for word in words if word.lstrip("-").isdigit()]
            if words[0] == "font":
                self.units = numbers[0]
            elif words[0] == "letter":
                self.names.append(words[1])
                self.widths[words[1]] = numbers[0]
            elif words[0] == "char":
                self.chars[numbers[0]] = words[2]
            elif words[0] in ("pair", "join"):
                kept = self.pairs if words[0] == "pair" else self.joins
                kept[words[1], words[2]] = numbers[0] if numbers else words[3]
            elif words[0] == "base":
                self.bases[words[1], numbers[0]] = numbers[1:]
            elif words[0] == "mark":
                self.marks[words[1]] = numbers

    def scaled(self, number, size):
        return floor(Fraction(number * size, self.units) + Fraction(1, 2))


def turned(items, level_of):
    items = list(items)
    for level in range(max([level_of(item) for item in items], default=0), 0, -1):
        begin = 0
        while begin < len(items):
            end = begin
            while end < len(items) and level_of(items[end]) >= level:
                end += 1
            items[begin:end] = items[begin:end][::-1]
            begin = max(end, begin + 1)
    return items


def clusters_of(font, text, levels, places):
    """Lists of (name, place), each of a letter that takes room and its marks."""
    names = []
    for place in places:
        code = text[place]
        if code not in LETTERLESS:
            code = SWAPPED.get(code, code) if levels[place] % 2 else code
            names.append((font.chars.get(code, font.names[0]), place))
    at = 0
    while at + 1 < len(names):
        key = (names[at][0], names[at + 1][0])
        if key in font.joins:
            names[at:at + 2] = [(font.joins[key], names[at][1])]
        else:
            at += 1
    clusters = []
    for name, place in names:
        host = clusters[-1][0][0] if clusters else None
        if name in font.marks and host not in font.marks and (host, font.marks[name][0]) in font.bases:
            clusters[-1].append((name, place))
        else:
            clusters.append([(name, place)])
    # What has no letters is turned about with the others.
    return clusters + [[(None, place)] for place in places if text[place] in LETTERLESS]


def slow_shape(text, levels, start, to, face, size):
    font = SlowFont(face)
    stretch_of, clusters, own = {}, [], []
    for place in range(start, to):
        if own and levels[own[-1]] != levels[place]:
            clusters += clusters_of(font, text, levels, own)
            own = []
        own.append(place)
        stretch_of[place] = own[0]
    clusters += clusters_of(font, text, levels, own)
    x, told, before = 0, [], None
    for cluster in turned(clusters, lambda one: levels[one[0][1]]):
        name, place = cluster[0]
        if name is None:
            continue
        if before and stretch_of[before[1]] == stretch_of[place]:
            first, second = sorted([before, (name, place)], key=lambda one: one[1])
            x += font.scaled(font.pairs.get((first[0], second[0]), 0), size)
        room = font.scaled(font.widths[name], size)
        told += [font.names.index(name), place, x, 0, room, levels[place]]
        for mark, at in cluster[1:]:
            kind, right, up = font.marks[mark]
            base = font.bases[name, kind]
            told += [font.names.index(mark), at, x + font.scaled(base[0], size) - font.scaled(right, size),
                     font.scaled(base[1], size) - font.scaled(up, size), 0, levels[at]]
        x += room
        before = (name, place)
    return [len(told) // 6] + told + [x]
