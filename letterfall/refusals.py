"""What a call answers below 0: one error class for each refusal."""


class Refusal(Exception):
    """A call's answer is this one number alone."""

    def __init__(self, answer):
        self.answer = answer


class OutOfRange(Refusal):
    """A number isn't in its range."""

    def __init__(self):
        Refusal.__init__(self, -8)


class WrongFont(Refusal):
    """A font's text isn't right; line is its first wrong line, from 1."""

    def __init__(self, line):
        Refusal.__init__(self, -2 - line)


class NoSuchLetter(Refusal):
    """The font has no letter of that number."""

    def __init__(self):
        Refusal.__init__(self, -5)
