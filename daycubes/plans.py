"""Numbers shown one behind the other with the fewest cubes touched in all, and papers that no ways touch fewer."""

from daycubes.errors import BadWays, TooMany
from daycubes.holders import touched
from daycubes.sets import check_needed, is_integer
from daycubes.showing import all_ways, is_way

MOST_WAYS = 60


def ways_by_number(group, numbers):
    """For each number the ascending list of its ways; BadNeeded, or TooMany if some number has more than 60."""
    check_needed(numbers)
    found = [all_ways(group, number) for number in numbers]
    if max([len(rows) for rows in found]) > MOST_WAYS:
        raise TooMany()
    return found


def totals(ahead, stood, number, rows, more):
    """For each way of a number the cubes touched between the way that stood ahead and it, and some more, together."""
    return [touched(number, way, ahead, stood) + many for way, many in zip(rows, more)]


def fewest_behind(numbers, found, place, rest):
    """For each way of the number at a place the fewest cubes touched behind it; rest is the same of those behind it."""
    if not rest:
        return (0,) * len(found[place])
    number, later, rows = numbers[place], numbers[place + 1], found[place + 1]
    return tuple([min(totals(number, way, later, rows, rest[0])) for way in found[place]])


def plan_of(numbers, found):
    """The fewest cubes touched behind each way of each number, all numbers being shown."""
    plan = ()
    for place in range(len(numbers) - 1, -1, -1):
        plan = (fewest_behind(numbers, found, place, plan),) + plan
    return plan


def all_touched(numbers, ways):
    """How many cubes are touched in all if the numbers are shown in these ways, from nothing on."""
    many, ahead, stood = 0, "", ()
    for number, way in zip(numbers, ways):
        many = many + touched(number, way, ahead, stood)
        ahead, stood = number, way
    return many


def cheapest(group, numbers):
    """The fewest cubes touched in all, and the least tuple of ways with so few; None if a number is not shown."""
    found = ways_by_number(group, numbers)
    if [] in found:
        return None
    chosen, ahead = [()], ""
    for number, rows, more in zip(numbers, found, plan_of(numbers, found)):
        many = totals(ahead, chosen[-1], number, rows, more)
        # The first way with the fewest cubes touched is the least one, whatever comes behind it.
        chosen.append(rows[many.index(min(many))])
        ahead = number
    ways = tuple(chosen[1:])
    return (all_touched(numbers, ways), ways)


def effort_of(group, numbers, ways):
    """How many cubes are touched in all with the told ways."""
    check_needed(numbers)
    if not isinstance(ways, tuple) or len(ways) != len(numbers):
        raise BadWays(None)
    for index, number in enumerate(numbers):
        if not is_way(group, number, ways[index]):
            raise BadWays(index)
    return all_touched(numbers, ways)


def plan_paper(group, numbers):
    """For each way of each number the fewest cubes touched behind it; None if a number is not shown."""
    found = ways_by_number(group, numbers)
    return plan_of(numbers, found) if [] not in found else None


def are_integers(value, many):
    """Tell of any value whether it is a tuple of so many integers."""
    return isinstance(value, tuple) and len(value) == many and all([is_integer(thing) for thing in value])


def has_the_form(value, found):
    """Tell of any value whether it is a tuple with, for each number, a tuple of one integer for each of its ways."""
    if not isinstance(value, tuple) or len(value) != len(found):
        return False
    return all([are_integers(row, len(rows)) for row, rows in zip(value, found)])


def shown_least(group, numbers, value):
    """The bound that any value shows, below which no ways touch; None if it shows none, or a number is not shown."""
    found = ways_by_number(group, numbers)
    if [] in found or not has_the_form(value, found):
        return None
    for place, row in enumerate(value):
        most = fewest_behind(numbers, found, place, value[place + 1:])
        if not all([many <= limit for many, limit in zip(row, most)]):
            return None
    return min(totals("", (), numbers[0], found[0], value[0]))
