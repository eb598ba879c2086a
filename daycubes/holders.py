"""Holders, in which cubes stand and show one number behind the other."""

from daycubes.errors import NotShown
from daycubes.sets import check_number
from daycubes.showing import all_ways


def touched(number, way, ahead, stood):
    """How many cubes are touched to show a number in a way, where another one stood in its own way ahead of it."""
    kept = 0
    for sign, cube, sign_there, cube_there in zip(number, way, ahead, stood):
        if sign == sign_there and cube == cube_there:
            kept = kept + 1
    return len(number) - kept


class Holder:
    """A holder with the cubes of a set, which shows numbers with the fewest cubes touched, takes back, brings again."""

    def __init__(self, group):
        self._group = group
        # Each number that stands or was taken back, with its way and how many cubes were touched for it.
        self._stands = []
        self._taken_back = []

    @property
    def group(self):
        """The set whose cubes stand here."""
        return self._group

    @property
    def figures(self):
        """The number that is shown, an empty string at first."""
        return self._stands[-1][0] if self._stands else ""

    @property
    def way(self):
        """The tuple of the cubes that show the number, place by place."""
        return self._stands[-1][1] if self._stands else ()

    @property
    def effort(self):
        """How many cubes were touched by all numbers that stand."""
        return sum([many for _, _, many in self._stands])

    def __len__(self):
        return len(self._stands)

    def show(self, number):
        """Show a number with the fewest cubes touched, in the least such way; how many are touched."""
        check_number(number)
        ahead, stood = self.figures, self.way
        rows = [(touched(number, way, ahead, stood), way) for way in all_ways(self._group, number)]
        if not rows:
            raise NotShown()
        many, way = min(rows)
        self._stands.append((number, way, many))
        self._taken_back = []
        return many

    def undo(self):
        """Take the last number back; whether there was one."""
        if not self._stands:
            return False
        self._taken_back.append(self._stands.pop())
        return True

    def redo(self):
        """Bring the last number that was taken back again, if no other was shown since; whether there was one."""
        if not self._taken_back:
            return False
        self._stands.append(self._taken_back.pop())
        return True
