"""What one face more brings, and which faces nobody needs."""

from daycubes.sets import Set, all_faces, check_needed, cubes_with, least_face
from daycubes.showing import shown_among


def exchanged(cubes, index, cube):
    """These cubes with another one at an index."""
    return cubes[:index] + (cube,) + cubes[index + 1:]


def with_face(cubes, index, figure):
    """These cubes with a figure on one more face of the one at an index."""
    return exchanged(cubes, index, tuple(sorted(cubes[index] + (figure,))))


def without_face(cubes, index, figure):
    """These cubes without a face of the one at an index, which may have none left."""
    return exchanged(cubes, index, tuple([face for face in cubes[index] if face != figure]))


def lacked_figures(cube, turns):
    """The ascending list of the figures that a cube has not, of two that can stand for one another the less."""
    least = [figure for figure in range(10) if least_face(figure, turns) == figure]
    return [figure for figure in least if cubes_with((cube,), figure, turns) == ()]


def gains(group, needed):
    """For each cube and each figure that it has not, ascending: (cube, figure, how many more are shown with it)."""
    check_needed(needed)
    before = len(shown_among(group.cubes, group.turns, needed))
    found = []
    for index, cube in enumerate(group.cubes):
        for figure in lacked_figures(cube, group.turns):
            cubes = with_face(group.cubes, index, figure)
            found.append((index, figure, len(shown_among(cubes, group.turns, needed)) - before))
    return found


def best_face(group, needed):
    """The first one of the gains with the greatest number, None if no cube lacks a figure."""
    return max(gains(group, needed), key=lambda gain: gain[2], default=None)


def needless(group, needed):
    """The ascending list of the faces, each alone, without which all needed numbers are shown that are shown now."""
    check_needed(needed)
    shown = shown_among(group.cubes, group.turns, needed)
    found = []
    for index, figure in all_faces(group.cubes):
        rest = without_face(group.cubes, index, figure)
        if shown_among(rest, group.turns, shown) == shown:
            found.append((index, figure))
    return found


def lean(group, needed):
    """The set that is left when each face that is needless then is struck, ascending, but the last one of a cube."""
    check_needed(needed)
    shown = shown_among(group.cubes, group.turns, needed)
    cubes = group.cubes
    for index, figure in all_faces(group.cubes):
        rest = without_face(cubes, index, figure)
        # What is struck changes nothing of what is shown, so the same numbers count throughout.
        if rest[index] != () and shown_among(rest, group.turns, shown) == shown:
            cubes = rest
    return Set(cubes, group.turns)
