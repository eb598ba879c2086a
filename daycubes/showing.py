"""Whether a set shows a number, in which ways, and where cubes are lacking."""

from itertools import combinations

from daycubes.sets import check_number, cubes_by_figure, cubes_with, is_within

# For each cube all the choices of cubes that are without it (see behind), as one integer.
WITHOUT = (
    0x5555555555555555, 0x3333333333333333, 0x0F0F0F0F0F0F0F0F, 0x00FF00FF00FF00FF, 0x0000FFFF0000FFFF,
    0x00000000FFFFFFFF,
)

# The one choice of cubes that no sign at all takes: that of none.
NONE_TAKEN = 1


def behind(taken, able):
    """The choices of cubes that signs can take, behind one more sign, which each of the able cubes can show.

    All choices together are one integer: its bit k is set if the signs can be shown by all the cubes that are the bits
    of k and by no others. So it is 0 if they cannot be shown.
    """
    # Which cubes are taken matters here, not at which places they stand: far fewer cases than there are ways.
    found = 0
    for cube in able:
        found = found | (taken & WITHOUT[cube]) << (1 << cube)
    return found


def behind_all(taken, signs):
    """The choices of cubes that can be taken behind several more signs, each told by the cubes that can show it."""
    for able in signs:
        taken = behind(taken, able)
    return taken


def cubes_by_place(cubes, turns, number):
    """For each place of a number the ascending tuple of the cubes that have the figure there."""
    return [cubes_with(cubes, int(sign), turns) for sign in number]


def is_shown(cubes, turns, number):
    """Tell whether these cubes, some perhaps with no face at all, show a number."""
    return behind_all(NONE_TAKEN, cubes_by_place(cubes, turns, number)) > 0


def takings(cubes, turns, numbers):
    """For each of some numbers the choices of these cubes that it can take, 0 if they do not show it."""
    able = cubes_by_figure(cubes, turns)
    return [behind_all(NONE_TAKEN, [able[int(sign)] for sign in number]) for number in numbers]


def shown_among(cubes, turns, numbers):
    """The list of those of some numbers that these cubes show, in their order."""
    return [number for number, taken in zip(numbers, takings(cubes, turns, numbers)) if taken > 0]


def all_ways(group, number):
    """The ascending list of all ways in which a set shows a number."""
    found = [()]
    for cubes in cubes_by_place(group.cubes, group.turns, number):
        found = [way + (cube,) for way in found for cube in cubes if cube not in way]
    return found


def is_way(group, number, value):
    """Tell of any value whether it is a way in which a set shows a number."""
    if not isinstance(value, tuple) or len(value) != len(number):
        return False
    if not all([is_within(cube, 0, len(group) - 1) for cube in value]) or len(set(value)) < len(value):
        return False
    return all([cube in able for cube, able in zip(value, cubes_by_place(group.cubes, group.turns, number))])


def together(cubes, places):
    """The ascending tuple of the cubes that stand at one of these places, or at several."""
    return tuple(sorted({cube for place in places for cube in cubes[place]}))


def shows(group, number):
    """Tell whether a set shows a number."""
    check_number(number)
    return is_shown(group.cubes, group.turns, number)


def how(group, number):
    """The least way in which a set shows a number, None if it does not."""
    check_number(number)
    found = all_ways(group, number)
    return found[0] if found else None


def ways(group, number):
    """In how many ways a set shows a number."""
    check_number(number)
    return len(all_ways(group, number))


def lacking(group, number):
    """The fewest places of a number with too few cubes, and these cubes; None if the set shows it."""
    check_number(number)
    cubes = cubes_by_place(group.cubes, group.turns, number)
    # By Hall's theorem a number is not shown just if some of its places have together fewer cubes than places.
    for many in range(1, len(number) + 1):
        for places in combinations(range(len(number)), many):
            few = together(cubes, places)
            if len(few) < many:
                return (places, few)
    return None
