"""Where lines may end."""

from letterfall.classes import STRONG, classes_of

NO = 0
MAY = 1
MUST = 2

LINE_FEED = 10
BLANK = 32
BLANK_WITHOUT_WIDTH = 8203
SOFT_HYPHEN = 173
HYPHENS = (45, 8208)
GLUE = (160, 8288)
CLOSING = (33, 41, 44, 46, 58, 59, 63, 93, 125, 8217, 8221, 12289, 12290)
OPENING = (40, 91, 123, 8216, 8220)
WIDE = ((12353, 12543), (13312, 40959), (44032, 55203))


def is_wide(code):
    return any([first <= code <= last for first, last in WIDE])


def is_hyphen_in_word(text, classes, place):
    """Whether a hyphen stands there between two letters; there is a character behind it."""
    if text[place] not in HYPHENS or place == 0:
        return False
    return classes[place - 1] in STRONG and classes[place + 1] in STRONG


def line_end(text, classes, place):
    """Whether a line may end behind this place: the first rule that holds tells."""
    here = text[place]
    if here == LINE_FEED or place == len(text) - 1:
        return MUST
    behind = text[place + 1]
    if behind in (LINE_FEED, BLANK, BLANK_WITHOUT_WIDTH):
        return NO
    if here == BLANK_WITHOUT_WIDTH:
        return MAY
    if here in GLUE or behind in GLUE or classes[place + 1] == "M":
        return NO
    if here == BLANK:
        return MAY
    if behind in CLOSING or here in OPENING:
        return NO
    if here == SOFT_HYPHEN or is_hyphen_in_word(text, classes, place):
        return MAY
    return MAY if is_wide(here) or is_wide(behind) else NO


def line_ends(text):
    classes = classes_of(text)
    return [line_end(text, classes, place) for place in range(len(text))]
