"""The order in which what's read from left to right and from right to left is seen."""

from letterfall.classes import classes_of
from letterfall.stacks import paragraphs_of
from letterfall.ways import levels_of


def turned_at(places, levels, level):
    """Turns about each stretch of places that are at this level or higher."""
    turned = []
    stretch = []
    for place in places:
        if levels[place] >= level:
            stretch.append(place)
        else:
            turned.extend(list(reversed(stretch)) + [place])
            stretch = []
    return turned + list(reversed(stretch))


def order_seen(levels):
    """The places of what has these levels, in the order seen."""
    places = list(range(len(levels)))
    odd = [level for level in levels if level % 2 == 1]
    if not odd:
        return places
    for level in range(max(levels), min(odd) - 1, -1):
        places = turned_at(places, levels, level)
    return places


def text_seen(text, side):
    """All places of a text, paragraph by paragraph in the order seen."""
    levels = levels_of(text, side)
    found = []
    for begin, end in paragraphs_of(classes_of(text)):
        found.extend([begin + place for place in order_seen(levels[begin:end])])
    return found
