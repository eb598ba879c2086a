"""The numbers of up to six signs that a set shows: how many, the k-th one, and how many are less than one."""

from daycubes.errors import BadNumber
from daycubes.sets import MOST_SIGNS, check_width, cubes_by_figure, is_within
from daycubes.showing import NONE_TAKEN, behind, shows


class Tails:
    """Counts how the signs that stand can go on, by the cubes that they can have taken; each case is counted once."""

    def __init__(self, group):
        self._able = cubes_by_figure(group.cubes, group.turns)
        # Figures that the same cubes have go on alike.
        self._kinds = sorted({(able, self._able.count(able)) for able in self._able})
        self._known = {}

    def heads(self, taken):
        """For each sign, ascending, the choices of cubes that can be taken behind it."""
        return [behind(taken, able) for able in self._able]

    def count_on(self, taken, left):
        """How many rows of so many more signs are shown behind signs that can take these choices of cubes."""
        if taken == 0 or left == 0:
            return 1 if taken > 0 else 0
        if (taken, left) not in self._known:
            rows = [many * self.count_on(behind(taken, able), left - 1) for able, many in self._kinds]
            self._known[(taken, left)] = sum(rows)
        return self._known[(taken, left)]


def great_count(group, width):
    """How many numbers of so many signs a set shows."""
    check_width(width, MOST_SIGNS)
    return Tails(group).count_on(NONE_TAKEN, width)


def kth_shown(group, width, k):
    """The number of so many signs, among those that a set shows, that has k others of them ahead of it."""
    check_width(width, MOST_SIGNS)
    tails = Tails(group)
    if not is_within(k, 0, tails.count_on(NONE_TAKEN, width) - 1):
        raise BadNumber()
    number, taken, ahead = "", NONE_TAKEN, k
    for left in range(width - 1, -1, -1):
        heads = tails.heads(taken)
        many = [tails.count_on(head, left) for head in heads]
        figure = 0
        while ahead >= many[figure]:
            ahead = ahead - many[figure]
            figure = figure + 1
        number, taken = number + str(figure), heads[figure]
    return number


def rank_shown(group, number):
    """How many of the shown numbers of as many signs are less than a number, None if it is not shown."""
    if not shows(group, number):
        return None
    tails = Tails(group)
    rank, taken = 0, NONE_TAKEN
    for place, sign in enumerate(number):
        heads = tails.heads(taken)
        left = len(number) - place - 1
        rank = rank + sum([tails.count_on(head, left) for head in heads[:int(sign)]])
        taken = heads[int(sign)]
    return rank
