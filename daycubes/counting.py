"""How many numbers a set shows, which ones these are, and the first one that it does not show."""

from daycubes.errors import BadRange
from daycubes.sets import SIGNS, check_width, is_within
from daycubes.showing import shows

MOST_WIDTH = 4
GREATEST = 9999


def check_range(low, high):
    """Raise BadRange unless any two values are integers from 0 to 9999, the second one not less than the first."""
    if not is_within(low, 0, GREATEST) or not is_within(high, 0, GREATEST) or high < low:
        raise BadRange()


def all_numbers(width):
    """The ascending list of all numbers of so many signs."""
    found = [""]
    for _ in range(width):
        found = [ahead + sign for ahead in found for sign in SIGNS]
    return found


def written_range(low, high, width):
    """The integers from low to high, each as it is written in a width."""
    return [str(number).zfill(width) for number in range(low, high + 1)]


def shown_or_not(group, numbers):
    """For each of some numbers whether a set shows it, True or False."""
    known = {}
    found = []
    for number in numbers:
        # The order of the signs does not matter here, so numbers of the same signs are judged once.
        signs = "".join(sorted(number))
        if signs not in known:
            known[signs] = shows(group, signs)
        found.append(known[signs])
    return found


def all_shown(group, width):
    """The ascending list of all numbers of so many signs that a set shows."""
    check_width(width, MOST_WIDTH)
    numbers = all_numbers(width)
    return [number for number, shown in zip(numbers, shown_or_not(group, numbers)) if shown]


def count_shown(group, width):
    """How many numbers of so many signs a set shows."""
    return len(all_shown(group, width))


def first_missing(group, low, high, width):
    """The least integer from low to high that, written in a width, is not shown; None if there is none."""
    check_range(low, high)
    check_width(width, MOST_WIDTH)
    shown = shown_or_not(group, written_range(low, high, width))
    return low + shown.index(False) if False in shown else None


def shown_numbers(group, low, high, width):
    """How many integers from low to high are shown, written in a width."""
    check_range(low, high)
    check_width(width, MOST_WIDTH)
    return shown_or_not(group, written_range(low, high, width)).count(True)
