"""The sets that show all that is needed: how many, which, with the fewest faces, and with the fewest cubes."""

from daycubes.errors import BadNumber, TooMany
from daycubes.sets import MOST_CUBES, check_needed, check_turns, is_within, least_face
from daycubes.showing import NONE_TAKEN, behind_all, shows

MOST_FACES = 10
MOST_LISTED = 100
MOST_PLACINGS = 60000


def first_unshown(group, needed):
    """The first one of the needed numbers that a set does not show, None if it shows all of them."""
    check_needed(needed)
    for number in needed:
        if not shows(group, number):
            return number
    return None


def needed_faces(number, turns):
    """The figures that a number asks for on cubes, as an ascending string: of two that can be turned the less one."""
    return "".join(sorted([str(least_face(int(sign), turns)) for sign in number]))


def needed_rows(needed, turns):
    """The ascending list of such strings for all needed numbers, no string twice."""
    return sorted({needed_faces(number, turns) for number in needed})


def signs_in(rows):
    """The ascending list of the signs in such strings, no sign twice."""
    return sorted({sign for row in rows for sign in row})


def asked_rows(needed, cubes, faces, turns):
    """The strings for all needed numbers; BadNeeded, BadNumber, BadTurns or TooMany if they cannot be gone through."""
    check_needed(needed)
    if not is_within(cubes, 1, MOST_CUBES) or not is_within(faces, 1, MOST_FACES):
        raise BadNumber()
    check_turns(turns)
    rows = needed_rows(needed, turns)
    placings = 1
    for _ in signs_in(rows):
        # A figure may be on any of the cubes, on one at least.
        placings = placings * ((1 << cubes) - 1)
    if placings > MOST_PLACINGS:
        raise TooMany()
    return rows


def choices_of(cubes, tied):
    """The choices of some of so many cubes, one at least, for the next figure, each with the cubes then still tied.

    Bit k of tied is set if cube k has just the figures of the cube ahead of it. Of such two the one ahead is given the
    next figure first, so tuples that differ in nothing but the order of their cubes are gone through once.
    """
    found = []
    for bits in range(1, 1 << cubes):
        parted = tied & (bits ^ bits << 1)
        if parted & bits == 0:
            found.append((tuple([cube for cube in range(cubes) if bits >> cube & 1]), tied ^ parted))
    return found


def put_on(sizes, chosen):
    """How many faces the cubes have with one more on each chosen one."""
    return tuple([size + 1 if cube in chosen else size for cube, size in enumerate(sizes)])


def parts_up_to(rows, sign):
    """The parts of the strings up to a sign, of those that have it, no part twice."""
    parts = sorted({row[:row.rfind(sign) + 1] for row in rows if sign in row})
    # One sign alone is always shown, as each figure is on some cube.
    return [part for part in parts if len(part) > 1]


def asked_behind(parts, sign, given):
    """For each such part (choices of cubes that the signs ahead can take, how often the last sign stands behind)."""
    able = dict(given)
    asked = []
    for part in parts:
        taken = behind_all(NONE_TAKEN, [able[lesser] for lesser in part if lesser != sign])
        asked.append((taken, part.count(sign)))
    # Few of them differ, however many numbers are needed.
    return sorted(set(asked))


def are_shown(asked, chosen):
    """Tell whether all that is asked for can be shown if the last sign is on the chosen cubes."""
    for taken, times in asked:
        if behind_all(taken, (chosen,) * times) == 0:
            return False
    return True


def next_cases(cases, rows, sign, faces):
    """The cases behind one more figure, each with the list of the steps to it: (case ahead, cubes given the figure).

    A case is all that matters for the figures to come: (the cubes that are tied, how many faces each cube has, the
    signs that strings ask for together with later ones, each with the cubes that were given its figure).
    """
    parts = parts_up_to(rows, sign)
    kept = signs_in([row for row in rows if row[-1] > sign])
    choices = {tied: choices_of(len(sizes), tied) for tied, sizes, _ in cases}
    found = {}
    for tied, sizes, given in cases:
        asked = asked_behind(parts, sign, given)
        for chosen, still_tied in choices[tied]:
            grown = put_on(sizes, chosen)
            if max(grown) <= faces and are_shown(asked, chosen):
                left = tuple([pair for pair in given + ((sign, chosen),) if pair[0] in kept])
                found.setdefault((still_tied, grown, left), []).append(((tied, sizes, given), chosen))
    return found


def all_cases(rows, cubes, faces):
    """The cases of so many cubes without a figure, then those behind the first one, and so on up to the last one."""
    found = [{((1 << cubes) - 2, (0,) * cubes, ()): []}]
    for sign in signs_in(rows):
        found.append(next_cases(found[-1], rows, sign, faces))
    # What has no face is no cube.
    return found[:-1] + [{case: steps for case, steps in found[-1].items() if 0 not in case[1]}]


def tallies(layers):
    """The list of (faces of all cubes together, how many tuples there are) for the cases behind the last figure."""
    first, *others = layers
    many = {case: 1 for case in first}
    for cases in others:
        many = {case: sum([many[ahead] for ahead, _ in steps]) for case, steps in cases.items()}
    return [(sum(case[1]), many[case]) for case in many]


def how_many(layers):
    """How many tuples of cubes there are in all."""
    return sum([many for _, many in tallies(layers)])


def cubes_of(placed, signs, cubes):
    """The ascending tuple of so many cubes, told by the chosen cubes for each of the signs."""
    made = []
    for cube in range(cubes):
        made.append(tuple([int(sign) for sign, chosen in zip(signs, placed) if cube in chosen]))
    return tuple(sorted(made))


def all_sets(layers, signs, cubes):
    """The ascending list of all tuples of so many cubes, each in ascending order."""
    found = [(case, ()) for case in layers[-1]]
    # From the last figure back, so that only cases are gone through that lead to such a tuple.
    for cases in reversed(layers[1:]):
        found = [(ahead, (chosen,) + placed) for case, placed in found for ahead, chosen in cases[case]]
    return sorted([cubes_of(placed, signs, cubes) for _, placed in found])


def count_sets(needed, cubes, faces, turns):
    """How many tuples of so many cubes, with at most so many faces each, show all that is needed."""
    rows = asked_rows(needed, cubes, faces, turns)
    return how_many(all_cases(rows, cubes, faces))


def list_sets(needed, cubes, faces, turns):
    """The ascending list of these tuples; TooMany if there are more than 100."""
    rows = asked_rows(needed, cubes, faces, turns)
    layers = all_cases(rows, cubes, faces)
    if how_many(layers) > MOST_LISTED:
        raise TooMany()
    return all_sets(layers, signs_in(rows), cubes)


def fewest_faces(needed, cubes, faces, turns):
    """The fewest faces of such a tuple, and how many tuples have so few; None if there is none."""
    rows = asked_rows(needed, cubes, faces, turns)
    found = tallies(all_cases(rows, cubes, faces))
    least = min([size for size, _ in found], default=None)
    return (least, sum([many for size, many in found if size == least])) if found else None


def fewest_cubes(needed, most, faces, turns):
    """The least number of cubes, up to most, for which there is such a tuple; None if there is none."""
    rows = asked_rows(needed, most, faces, turns)
    for cubes in range(1, most + 1):
        if all_cases(rows, cubes, faces)[-1]:
            return cubes
    return None
