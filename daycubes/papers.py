"""Papers that a number is shown, or that it is not, and whether a value is one."""

from daycubes.sets import ascends, check_number, is_within
from daycubes.showing import cubes_by_place, how, is_way, lacking, together

WAY = "way"
LACKS = "lacks"


def paper(group, number):
    """The paper for a number: with the least way if the set shows it, otherwise with the places of lacking."""
    way = how(group, number)
    return (WAY, way) if way is not None else (LACKS, lacking(group, number)[0])


def are_lacking(group, number, value):
    """Tell of any value whether it is an ascending tuple of places that have together fewer cubes than places."""
    if not isinstance(value, tuple) or not all([is_within(place, 0, len(number) - 1) for place in value]):
        return False
    cubes = cubes_by_place(group.cubes, group.turns, number)
    return ascends(value) and len(together(cubes, value)) < len(value)


def right_paper(group, number, value):
    """Tell of any value whether it is a paper for a number."""
    check_number(number)
    if not isinstance(value, tuple) or len(value) != 2:
        return False
    if value[0] == WAY:
        return is_way(group, number, value[1])
    return value[0] == LACKS and are_lacking(group, number, value[1])
