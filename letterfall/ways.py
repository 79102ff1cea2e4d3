"""Each character's level: which way it is read, and within what."""

from letterfall.classes import STRONG, classes_of
from letterfall.stacks import paragraphs_of, runs_of

AROUND_MARKS = ("LI", "RI", "FI", "PI")
NEUTRAL = ("O", "LI", "RI", "FI", "PI", "B")
HIGHER_ON_EVEN = {"L": 0, "R": 1, "N": 2, "AN": 2}
HIGHER_ON_ODD = {"L": 1, "R": 0, "N": 1, "AN": 1}


def marks_settled(names, side):
    settled = []
    before = side
    for name in names:
        if name != "M":
            before = name
        elif before in AROUND_MARKS:
            before = "O"
        settled.append(before)
    return settled


def digit_settled(last):
    if last == "A":
        return "AN"
    return "L" if last == "L" else "N"


def digits_settled(names, side):
    settled = []
    last = side
    for name in names:
        if name in STRONG:
            last = name
        settled.append(digit_settled(last) if name == "N" else name)
    return settled


def neutrals_settled(names, side):
    """Gives each stretch of neutral ones a side; what's around it is settled already."""
    settled = []
    before = side
    waiting = 0
    # The side behind the last stands there as a name of its own, and is taken away again.
    for name in names + [side]:
        if name in NEUTRAL:
            waiting += 1
        else:
            behind = "L" if name == "L" else "R"
            settled.extend([behind if before == behind else side] * waiting)
            settled.append(name)
            before = behind
            waiting = 0
    return settled[:-1]


def run_levels(names, level):
    side = "R" if level % 2 == 1 else "L"
    settled = digits_settled(marks_settled(names, side), side)
    settled = ["R" if name == "A" else name for name in settled]
    settled = neutrals_settled(settled, side)
    if level % 2 == 1:
        return [level + HIGHER_ON_ODD[name] for name in settled]
    return [level + HIGHER_ON_EVEN[name] for name in settled]


def paragraph_levels(classes, side):
    found = [0] * len(classes)
    for run in runs_of(classes, side):
        names = [classes[place] for place in run.places]
        for place, level in zip(run.places, run_levels(names, run.level)):
            found[place] = level
    return found


def levels_of(text, side):
    """Each character's level; side is 0, 1, or 2 if each paragraph's is to be found."""
    classes = classes_of(text)
    found = []
    for begin, end in paragraphs_of(classes):
        found.extend(paragraph_levels(classes[begin:end], side))
    return found
