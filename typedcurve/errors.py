"""The errors of the package. An error keeps each field as it was passed."""


class CurveError(ValueError):
    """The base of all errors of the package."""


class BadNumber(CurveError):
    """What should be a number, an integer or a list of such is none, or is out of its bounds."""

    def __init__(self, part):
        self.part = part


class BadPoint(CurveError):
    """What should be a point is none."""

    def __init__(self, part):
        self.part = part


class BadTurn(CurveError):
    """What should be a turn is none."""

    def __init__(self, part):
        self.part = part


class BadPlace(CurveError):
    """What should be a place, or a list of places, is none."""

    def __init__(self, part):
        self.part = part


class BadPoly(CurveError):
    """What should be a Poly, or the terms of one, is none."""

    def __init__(self, part):
        self.part = part


class BadWaves(CurveError):
    """What should be Waves, or their rows, or a beat, is none."""

    def __init__(self, part):
        self.part = part


class BadMachine(CurveError):
    """What should be a Machine, or a list of its parts, is none."""

    def __init__(self, part):
        self.part = part


class BadWord(CurveError):
    """What should be a word, or a list with words, is none."""

    def __init__(self, part):
        self.part = part


class BadPaper(CurveError):
    """What should be a paper is none."""

    def __init__(self, part):
        self.part = part


class Misfit(CurveError):
    """Each value is right by itself, but they do not fit together."""

    def __init__(self, part):
        self.part = part


class TooMany(CurveError):
    """There are more of something than the most that may be."""

    def __init__(self, what, most):
        self.what = what
        self.most = most


class BadText(CurveError):
    """A text is not right: the line, and the item in it that cannot stand or is missing."""

    def __init__(self, line, item):
        self.line = line
        self.item = item


class BadLine(CurveError):
    """A line of a desk that is not done, with the error that was raised there."""

    def __init__(self, error):
        self.error = error
