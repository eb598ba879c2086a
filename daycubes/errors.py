"""The errors of the package."""


class CubeError(ValueError):
    """The base class of all errors of the package."""


class BadCubes(CubeError):
    """Wrong cubes: index is the first thing that is no cube, None if they are no tuple of 1 to 6 things."""

    def __init__(self, index):
        CubeError.__init__(self, f"wrong cubes, index {index}")
        self.index = index


class BadTurns(CubeError):
    """Wrong turns."""

    def __init__(self):
        CubeError.__init__(self, "no ascending tuple of pairs of figures, each figure in one pair at most")


class BadFigures(CubeError):
    """No number, or no figures."""

    def __init__(self):
        CubeError.__init__(self, "no number, or no figures")


class BadWidth(CubeError):
    """A wrong width."""

    def __init__(self):
        CubeError.__init__(self, "wrong width")


class BadRange(CubeError):
    """A wrong lowest or highest integer, or a highest one that is less than the lowest."""

    def __init__(self):
        CubeError.__init__(self, "wrong range")


class BadNeeded(CubeError):
    """Wrong needed numbers: index is the first thing that is none, None if they are no tuple of 1 to 60 things."""

    def __init__(self, index):
        CubeError.__init__(self, f"wrong needed numbers, index {index}")
        self.index = index


class BadNumber(CubeError):
    """An integer that is out of its bounds, or none."""

    def __init__(self):
        CubeError.__init__(self, "no integer within the bounds")


class TooMany(CubeError):
    """More than the package goes through."""

    def __init__(self):
        CubeError.__init__(self, "too many")


class BadSeen(CubeError):
    """What was seen is wrong: index is the first wrong thing, None if it is no list or tuple."""

    def __init__(self, index):
        CubeError.__init__(self, f"wrong things seen, index {index}")
        self.index = index


class BadWays(CubeError):
    """Wrong ways: index is the first one that is none, None if they are no tuple of as many as there are numbers."""

    def __init__(self, index):
        CubeError.__init__(self, f"wrong ways, index {index}")
        self.index = index


class NotShown(CubeError):
    """A number that the set does not show."""

    def __init__(self):
        CubeError.__init__(self, "the set does not show this number")


class BadText(CubeError):
    """A text of no set: word is the index of the first wrong or lacking word, None if it is no string."""

    def __init__(self, word):
        CubeError.__init__(self, f"no text of a set, word {word}")
        self.word = word
