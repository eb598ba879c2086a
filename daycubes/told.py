"""Which cubes it can have been: told back from the numbers that were seen, shown or not shown."""

from daycubes.errors import BadFigures, BadNumber, BadSeen
from daycubes.sets import all_faces, check_turns, is_cube, is_number, is_within
from daycubes.showing import is_shown

MOST_TOLD_CUBES = 2
MOST_TOLD_FIGURES = 4


def is_thing_seen(value):
    """Tell of any value whether it is a tuple of a number and of whether it is shown."""
    if not isinstance(value, tuple) or len(value) != 2:
        return False
    return is_number(value[0]) and isinstance(value[1], bool)


def check_told(cubes, figures, turns, seen):
    """Raise BadNumber, BadFigures, BadTurns or BadSeen unless cubes can be told back from any values."""
    if not is_within(cubes, 1, MOST_TOLD_CUBES):
        raise BadNumber()
    # Such figures have just the form of a cube, but that they are no more than four.
    if not is_cube(figures) or len(figures) > MOST_TOLD_FIGURES:
        raise BadFigures()
    check_turns(turns)
    if not isinstance(seen, (list, tuple)):
        raise BadSeen(None)
    for index, thing in enumerate(seen):
        if not is_thing_seen(thing):
            raise BadSeen(index)


def cubes_of(figures):
    """All cubes with some of these figures on them."""
    found = [()]
    for figure in figures:
        found = found + [cube + (figure,) for cube in found]
    return found[1:]


def all_tuples(cubes, figures):
    """All tuples of so many cubes, in any order, with some of these figures on them."""
    found = [()]
    for _ in range(cubes):
        found = [made + (cube,) for made in found for cube in cubes_of(figures)]
    return found


def fitting(cubes, figures, turns, seen):
    """How many tuples of cubes agree with what was seen, and the faces that are in all of them, and in some."""
    check_told(cubes, figures, turns, seen)
    found = all_tuples(cubes, figures)
    for number, shown in seen:
        found = [made for made in found if is_shown(made, turns, number) == shown]
    faces = [all_faces(made) for made in found]
    possible = sorted({face for row in faces for face in row})
    sure = [face for face in possible if all([face in row for row in faces])]
    return (len(found), sure, possible)
