"""Sets of cubes, what they are made of, and the numbers that they may show."""

from daycubes.errors import BadCubes, BadFigures, BadNeeded, BadTurns, BadWidth

MOST_CUBES = 6
MOST_SIGNS = 6
MOST_NEEDED = 60
SIGNS = "0123456789"


def is_integer(value):
    """Tell of any value whether it is an integer."""
    # Python takes True and False for integers, the document does not.
    return isinstance(value, int) and not isinstance(value, bool)


def is_within(value, low, high):
    """Tell of any value whether it is an integer from low to high."""
    return is_integer(value) and low <= value <= high


def is_figure(value):
    """Tell of any value whether it is a figure."""
    return is_within(value, 0, 9)


def ascends(values):
    """Tell whether a tuple of figures, or of pairs of them, is ascending, none of its members twice."""
    return values == tuple(sorted(set(values)))


def is_cube(value):
    """Tell of any value whether it is a cube."""
    if not isinstance(value, tuple) or len(value) == 0:
        return False
    return all([is_figure(face) for face in value]) and ascends(value)


def is_turns(value):
    """Tell of any value whether it is turns."""
    if not isinstance(value, tuple):
        return False
    # A pair of figures, the less one ahead, has just the form of a cube with two faces.
    if not all([is_cube(pair) and len(pair) == 2 for pair in value]):
        return False
    figures = [figure for pair in value for figure in pair]
    return ascends(value) and len(set(figures)) == len(figures)


def is_number(value):
    """Tell of any value whether it is a number."""
    if not isinstance(value, str) or not 1 <= len(value) <= MOST_SIGNS:
        return False
    # Not isdigit, which is True for figures of other scripts, too.
    return all([sign in SIGNS for sign in value])


def check_cubes(value):
    """Raise BadCubes unless any value is a tuple of 1 to 6 cubes."""
    if not isinstance(value, tuple) or not 1 <= len(value) <= MOST_CUBES:
        raise BadCubes(None)
    for index, cube in enumerate(value):
        if not is_cube(cube):
            raise BadCubes(index)


def check_turns(value):
    """Raise BadTurns unless any value is turns."""
    if not is_turns(value):
        raise BadTurns()


def check_number(value):
    """Raise BadFigures unless any value is a number."""
    if not is_number(value):
        raise BadFigures()


def check_width(value, most):
    """Raise BadWidth unless any value is an integer from 1 to the most signs that are asked for there."""
    if not is_within(value, 1, most):
        raise BadWidth()


def check_needed(value):
    """Raise BadNeeded unless any value is a tuple of 1 to 60 numbers."""
    if not isinstance(value, tuple) or not 1 <= len(value) <= MOST_NEEDED:
        raise BadNeeded(None)
    for index, number in enumerate(value):
        if not is_number(number):
            raise BadNeeded(index)


def faces_for(figure, turns):
    """The ascending tuple of the figures that show a figure: itself, and the one that can stand for it."""
    for pair in turns:
        if figure in pair:
            return pair
    return (figure,)


def least_face(figure, turns):
    """The figure itself, or the one that can stand for it, whichever is less."""
    return faces_for(figure, turns)[0]


def cubes_with(cubes, figure, turns):
    """The ascending tuple of those of these cubes, told by their indexes, that have a figure."""
    faces = faces_for(figure, turns)
    return tuple([index for index, cube in enumerate(cubes) if faces[0] in cube or faces[-1] in cube])


def cubes_by_figure(cubes, turns):
    """For each figure from 0 to 9 the ascending tuple of those of these cubes that have it."""
    return [cubes_with(cubes, figure, turns) for figure in range(10)]


def all_faces(cubes):
    """The ascending list of all faces (cube, figure) of these cubes."""
    return [(index, figure) for index, cube in enumerate(cubes) for figure in cube]


class Set:
    """A set of 1 to 6 cubes, and the turns that hold for all of them; nothing in it changes."""

    def __init__(self, cubes, turns=()):
        check_cubes(cubes)
        check_turns(turns)
        self._cubes = cubes
        self._turns = turns

    @property
    def cubes(self):
        """The tuple of the cubes, each the ascending tuple of the figures on its faces."""
        return self._cubes

    @property
    def turns(self):
        """The ascending tuple of the pairs of figures that can stand for one another."""
        return self._turns

    def __len__(self):
        return len(self._cubes)

    def __eq__(self, other):
        return isinstance(other, Set) and self._cubes == other._cubes and self._turns == other._turns
