"""The sets that show all that is needed: how many, which, with the fewest faces, and with the fewest cubes."""

from daycubes.errors import BadNumber, TooMany
from daycubes.sets import MOST_CUBES, check_needed, check_turns, is_within, least_face
from daycubes.showing import is_shown, shows

MOST_FACES = 10
MOST_LISTED = 100
MOST_PLACINGS = 60000


def first_unshown(group, needed):
    """The first one of the needed numbers that a set does not show, None if it shows all of them."""
    check_needed(needed)
    for number in needed:
        if not shows(group, number):
            return number
    return None


def needed_faces(number, turns):
    """The figures that a number asks for on cubes, as an ascending string: of two that can be turned the less one."""
    return "".join(sorted([str(least_face(int(sign), turns)) for sign in number]))


def needed_rows(needed, turns):
    """The ascending list of such strings for all needed numbers, no string twice."""
    return sorted({needed_faces(number, turns) for number in needed})


def figures_in(rows):
    """The ascending list of the figures in such strings."""
    return sorted({int(sign) for row in rows for sign in row})


def check_asked(needed, cubes, faces, turns):
    """Raise BadNeeded, BadNumber, BadTurns or TooMany unless any values can be gone through."""
    check_needed(needed)
    if not is_within(cubes, 1, MOST_CUBES) or not is_within(faces, 1, MOST_FACES):
        raise BadNumber()
    check_turns(turns)
    placings = 1
    for _ in figures_in(needed_rows(needed, turns)):
        # A figure may be on any of the cubes, on one at least.
        placings = placings * ((1 << cubes) - 1)
    if placings > MOST_PLACINGS:
        raise TooMany()


def put_on(cubes, figure, chosen):
    """These cubes with a figure on one more face of each chosen one."""
    return tuple([cube + (figure,) if index in chosen else cube for index, cube in enumerate(cubes)])


def fits(cubes, faces, rows):
    """Tell whether no cube has too many faces, and the cubes show all that is asked for."""
    if max([len(cube) for cube in cubes]) > faces:
        return False
    for row in rows:
        if not is_shown(cubes, (), row):
            return False
    return True


def choices_of(cubes):
    """All tuples of indexes of some of so many cubes, one at least."""
    found = [()]
    for index in range(cubes):
        found = found + [chosen + (index,) for chosen in found]
    return found[1:]


def placed(rows, cubes, faces):
    """All tuples of cubes, in any order and some perhaps with no face at all, that show what is asked for."""
    choices = choices_of(cubes)
    found = [((),) * cubes]
    for figure in figures_in(rows):
        # The strings ascend, so those that end here ask for nothing that is not on the cubes yet.
        due = [row for row in rows if row[-1] == str(figure)]
        grown = [put_on(made, figure, chosen) for made in found for chosen in choices]
        found = [made for made in grown if fits(made, faces, due)]
    return found


def all_sets(needed, cubes, faces, turns):
    """The ascending list of the tuples of so many cubes, in ascending order, that show all that is needed."""
    found = placed(needed_rows(needed, turns), cubes, faces)
    return sorted([made for made in found if () not in made and made == tuple(sorted(made))])


def count_sets(needed, cubes, faces, turns):
    """How many tuples of so many cubes, with at most so many faces each, show all that is needed."""
    check_asked(needed, cubes, faces, turns)
    return len(all_sets(needed, cubes, faces, turns))


def list_sets(needed, cubes, faces, turns):
    """The ascending list of these tuples; TooMany if there are more than 100."""
    check_asked(needed, cubes, faces, turns)
    found = all_sets(needed, cubes, faces, turns)
    if len(found) > MOST_LISTED:
        raise TooMany()
    return found


def fewest_faces(needed, cubes, faces, turns):
    """The fewest faces of such a tuple, and how many tuples have so few; None if there is none."""
    check_asked(needed, cubes, faces, turns)
    sizes = [sum([len(cube) for cube in made]) for made in all_sets(needed, cubes, faces, turns)]
    return (min(sizes), sizes.count(min(sizes))) if sizes else None


def fewest_cubes(needed, most, faces, turns):
    """The least number of cubes, up to most, for which there is such a tuple; None if there is none."""
    check_asked(needed, most, faces, turns)
    for cubes in range(1, most + 1):
        if all_sets(needed, cubes, faces, turns):
            return cubes
    return None
