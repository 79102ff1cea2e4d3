"""A stretch of a paragraph becomes letters: which ones, and where each stands."""

from letterfall.classes import WITHOUT_LETTERS, classes_of
from letterfall.seen import order_seen
from letterfall.ways import levels_of

# Brackets: which of its two a sign is depends on the way it is read.
EXCHANGED = {40: 41, 41: 40, 60: 62, 62: 60, 91: 93, 93: 91, 123: 125, 125: 123}


class Standing:
    """A letter that takes room, its character's place, and (number, place) of each mark that sits on it."""

    def __init__(self, number, place):
        self.number = number
        self.place = place
        self.marks = []


class Line:
    """The letters that have their places already, and where the next one is to stand."""

    def __init__(self, font, size):
        self.font = font
        self.size = size
        self.x = 0
        self.many = 0
        self.told = []

    def scaled(self, units):
        return (2 * units * self.size + self.font.units) // (2 * self.font.units)

    def tell(self, number, place, x, y, room, level):
        self.many += 1
        self.told.extend([number, place, x, y, room, level])

    def put(self, standing, level):
        host = self.font.letters[standing.number]
        room = self.scaled(host.width)
        self.tell(standing.number, standing.place, self.x, 0, room, level)
        for number, place in standing.marks:
            own = self.font.letters[number].mark
            base = host.bases[own[0]]
            x = self.x + self.scaled(base[0]) - self.scaled(own[1])
            self.tell(number, place, x, self.scaled(base[1]) - self.scaled(own[2]), 0, level)
        self.x += room

    def put_stretch(self, stretch, level):
        """Puts letters that stand in the text's order, at an odd level from the last to the first."""
        turned = level % 2 == 1
        seen = list(reversed(stretch)) if turned else stretch
        before = None
        for standing in seen:
            if before is not None:
                key = (standing.number, before.number) if turned else (before.number, standing.number)
                self.x += self.scaled(self.font.pairs.get(key, 0))
            self.put(standing, level)
            before = standing


def level_stretches(levels, start, to):
    """(begin, end) of each stretch of one level."""
    found = []
    begin = start
    for place in range(start + 1, to + 1):
        if place == to or levels[place] != levels[begin]:
            found.append((begin, place))
            begin = place
    return found


def letter_of(font, code, level):
    shown = EXCHANGED.get(code, code) if level % 2 == 1 else code
    return font.chars.get(shown, 0)


def joined(font, letters):
    done = []
    for number, place in letters:
        whole = font.joins.get((done[-1][0], number)) if done else None
        if whole is None:
            done.append((number, place))
        else:
            done[-1] = (whole, done[-1][1])
    return done


def sits_on(mark, host):
    return mark.mark is not None and host.mark is None and mark.mark[0] in host.bases


def with_marks(font, letters):
    """The letters that take room, each with the marks that are placed on it."""
    done = []
    for number, place in letters:
        if done and sits_on(font.letters[number], font.letters[done[-1].number]):
            done[-1].marks.append((number, place))
        else:
            done.append(Standing(number, place))
    return done


def shaped(font, size, side, start, to, text):
    """How many letters; six numbers for each, in the order seen; x behind the last."""
    levels = levels_of(text, side)
    classes = classes_of(text)
    stretches = level_stretches(levels, start, to)
    line = Line(font, size)
    for index in order_seen([levels[begin] for begin, end in stretches]):
        begin = stretches[index][0]
        level = levels[begin]
        places = [place for place in range(begin, stretches[index][1]) if classes[place] not in WITHOUT_LETTERS]
        letters = [(letter_of(font, text[place], level), place) for place in places]
        line.put_stretch(with_marks(font, joined(font, letters)), level)
    return [line.many] + line.told + [line.x]
