"""Paragraphs, their sides, and the runs into which LI, RI, FI and PI part them."""

from letterfall.classes import PUSHING, STRONG

MOST_LEVEL = 60
# Stands for a paragraph itself where places stand for the parts within it.
WHOLE = -1


class Run:
    """The characters that are reached with one and the same stack, and its uppermost level."""

    def __init__(self, level):
        self.level = level
        self.places = []


def paragraphs_of(classes):
    """(begin, end) of each paragraph; its B is before its end."""
    found = []
    begin = 0
    for place, name in enumerate(classes, start=1):
        if name == "B":
            found.append((begin, place))
            begin = place
    if begin < len(classes):
        found.append((begin, len(classes)))
    return found


def sides_of(classes):
    """The side of a paragraph, at WHOLE, and of each part in it, at the place of what opens it.

    Where there's nothing that tells a side, there's none kept.
    """
    sides = {}
    within = [WHOLE]
    for place, name in enumerate(classes):
        if name in PUSHING:
            within.append(place)
        elif name == "PI" and len(within) > 1:
            within.pop()
        elif name in STRONG and within[-1] not in sides:
            sides[within[-1]] = 0 if name == "L" else 1
    return sides


def level_above(level, odd):
    return level + 1 if (level + 1) % 2 == odd else level + 2


def level_pushed(name, level, part_side):
    if name == "FI":
        return level_above(level, part_side)
    return level_above(level, 1 if name == "RI" else 0)


def runs_of(classes, side):
    """The runs of a paragraph whose side is told (0 or 1) or isn't (2)."""
    sides = sides_of(classes)
    bottom = Run(side if side != 2 else sides.get(WHOLE, 0))
    runs = [bottom]
    stack = [bottom]
    # Of each LI, RI, FI that still waits for its PI: whether it pushed.
    waiting = []
    for place, name in enumerate(classes):
        if name == "PI" and waiting:
            pushed = waiting.pop()
            if pushed:
                stack.pop()
        upper = bottom if name == "B" else stack[-1]
        upper.places.append(place)
        if name in PUSHING:
            level = level_pushed(name, upper.level, sides.get(place, 0))
            waiting.append(level <= MOST_LEVEL)
            if level <= MOST_LEVEL:
                stack.append(Run(level))
                runs.append(stack[-1])
    return runs
