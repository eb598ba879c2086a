"""Whether a set shows a number, in which ways, and where cubes are lacking."""

from itertools import combinations

from daycubes.sets import check_number, cubes_with


def cubes_by_place(cubes, turns, number):
    """For each place of a number the ascending tuple of the cubes that have the figure there."""
    return [cubes_with(cubes, int(sign), turns) for sign in number]


def is_shown(cubes, turns, number):
    """Tell whether these cubes, some perhaps with no face at all, show a number."""
    taken = [0]
    for able in cubes_by_place(cubes, turns, number):
        # Which cubes are taken matters here, not at which places they stand: far fewer cases than there are ways.
        taken = sorted({bits | 1 << cube for bits in taken for cube in able if not bits >> cube & 1})
    return len(taken) > 0


def shown_among(cubes, turns, numbers):
    """The list of those of some numbers that these cubes show, in their order."""
    return [number for number in numbers if is_shown(cubes, turns, number)]


def all_ways(group, number):
    """The ascending list of all ways in which a set shows a number."""
    found = [()]
    for cubes in cubes_by_place(group.cubes, group.turns, number):
        found = [way + (cube,) for way in found for cube in cubes if cube not in way]
    return found


def together(cubes, places):
    """The ascending tuple of the cubes that stand at one of these places, or at several."""
    return tuple(sorted({cube for place in places for cube in cubes[place]}))


def shows(group, number):
    """Tell whether a set shows a number."""
    check_number(number)
    return is_shown(group.cubes, group.turns, number)


def how(group, number):
    """The least way in which a set shows a number, None if it does not."""
    check_number(number)
    found = all_ways(group, number)
    return found[0] if found else None


def ways(group, number):
    """In how many ways a set shows a number."""
    check_number(number)
    return len(all_ways(group, number))


def lacking(group, number):
    """The fewest places of a number with too few cubes, and these cubes; None if the set shows it."""
    check_number(number)
    cubes = cubes_by_place(group.cubes, group.turns, number)
    # By Hall's theorem a number is not shown just if some of its places have together fewer cubes than places.
    for many in range(1, len(number) + 1):
        for places in combinations(range(len(number)), many):
            few = together(cubes, places)
            if len(few) < many:
                return (places, few)
    return None
