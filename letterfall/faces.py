"""A font and its letters, as they are known once the font's text is read."""


class Letter:
    """A letter: its width, its outline, where marks sit on it, and its own spot as a mark."""

    def __init__(self, width):
        self.width = width
        # (word, numbers) for each move, line and curve, in the order of the text.
        self.outline = []
        # kind: (x, y)
        self.bases = {}
        # (kind, x, y), or None for a letter that's no mark.
        self.mark = None


class Font:
    """A font; letters go by their numbers but in numbers, which tells each name's."""

    def __init__(self, units, up, down, gap):
        self.units = units
        self.up = up
        self.down = down
        self.gap = gap
        self.letters = []
        self.numbers = {}
        self.chars = {}
        self.pairs = {}
        self.joins = {}
