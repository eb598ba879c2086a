"""The first number that two sets differ in, and the cubes that a set can lose."""

from itertools import combinations

from daycubes.sets import MOST_SIGNS, SIGNS, check_needed, cubes_by_figure
from daycubes.showing import NONE_TAKEN, WITHOUT, behind, takings


def signs_of_both(one, other):
    """The list of (sign, cubes of one set that have it, cubes of the other): of signs that are alike, the least."""
    found = {}
    here, there = cubes_by_figure(one.cubes, one.turns), cubes_by_figure(other.cubes, other.turns)
    for sign, able, able_there in zip(SIGNS, here, there):
        found.setdefault((able, able_there), sign)
    return [(sign, able, able_there) for (able, able_there), sign in found.items()]


def next_heads(heads, signs):
    """The numbers with one more sign that some set shows, each with the choices of cubes that it can take of both."""
    found = {}
    for number, taken, taken_there in heads:
        for sign, able, able_there in signs:
            # The order of the signs does not matter, so the least number has them ascending.
            if sign >= number[-1:]:
                # What goes on like a number ahead of it cannot be the least.
                found.setdefault((behind(taken, able), behind(taken_there, able_there)), number + sign)
    return [(number, taken, taken_there) for (taken, taken_there), number in found.items() if taken + taken_there > 0]


def first_number(one, other, both):
    """The first number that the set other shows and the set one does not; with both True also the other way round."""
    signs = signs_of_both(one, other)
    heads = [("", NONE_TAKEN, NONE_TAKEN)]
    for _ in range(MOST_SIGNS):
        heads = next_heads(heads, signs)
        for number, taken, taken_there in heads:
            if taken == 0 or (both and taken_there == 0):
                return number
        # What the set other does not show, it does not show with more signs.
        heads = [head for head in heads if head[2] > 0]
    return None


def first_apart(one, other):
    """The first number, by length and then ascending, that just one of two sets shows; None if there is none."""
    return first_number(one, other, True)


def first_beyond(one, other):
    """The first number, likewise, that the set one does not show though the set other does; None if there is none."""
    return first_number(one, other, False)


def shown_takings(group, needed):
    """The choices of cubes that can be taken by each of the needed numbers that a set shows, none of them twice."""
    return [taken for taken in sorted(set(takings(group.cubes, group.turns, needed))) if taken > 0]


def is_left(taken, lost):
    """Tell whether one of these choices of cubes is left without the lost cubes."""
    for cube in lost:
        taken = taken & WITHOUT[cube]
    return taken > 0


def all_left(needed_takings, lost):
    """Tell whether without the lost cubes all numbers are shown that can take these choices of cubes."""
    return all([is_left(taken, lost) for taken in needed_takings])


def fewest_lost(group, needed):
    """The fewest cubes without which not all needed numbers are shown that are shown now, and all such tuples."""
    check_needed(needed)
    shown = shown_takings(group, needed)
    for many in range(1, len(group) + 1):
        found = [lost for lost in combinations(range(len(group)), many) if not all_left(shown, lost)]
        if found:
            return (many, found)
    return None


def most_spare(group, needed):
    """The most cubes without which all needed numbers are shown that are shown now, and all such tuples."""
    check_needed(needed)
    shown = shown_takings(group, needed)
    for many in range(len(group), 0, -1):
        found = [lost for lost in combinations(range(len(group)), many) if all_left(shown, lost)]
        if found:
            return (many, found)
    return (0, [()])
