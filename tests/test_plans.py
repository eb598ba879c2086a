import copy
import itertools
import unittest

from daycubes.errors import BadNeeded, BadWays, TooMany
from daycubes.plans import cheapest, effort_of, plan_paper, shown_least
from daycubes.sets import Set
from helper import ANY, DAYS, FIGURES, NO_NUMBERS, nested, plain_touched, plain_ways, told

TWO = Set(((1, 2), (1, 2)))

SIX = Set((FIGURES,) * 6)

# Rows of one to four numbers, each for a set that shows all of them.
ROWS = [
    (TWO, [("1",), ("12",), ("1", "12"), ("12", "21"), ("1", "12", "2"), ("11", "12", "22"), ("1", "2", "1", "2"),
           ("12", "12", "12", "12"), ("12", "21", "12", "1"), ("1", "1", "11", "21")]),
    (Set(((1, 2), (1, 3), (2, 3))), [("1",), ("123",), ("3", "32"), ("12", "23", "31"), ("1", "12", "123", "13"),
                                     ("231", "21", "2", "3"), ("2", "2", "3", "3")]),
    (Set(((6,), (6, 8), (8,)), ((6, 9),)), [("6",), ("9", "6"), ("69", "96", "68"), ("9", "98", "989", "6"),
                                            ("8", "9", "6", "8"), ("689", "988", "68")]),
    (DAYS, [("01", "02", "03"), ("30", "31"), ("09", "10", "11", "12"), ("1", "11", "1", "12"), ("5", "15", "9")]),
    (Set(((1,), (1,), (1, 2), (2,), (2,))), [("1", "11", "112"), ("21", "12", "1"), ("11122",), ("2211", "22")]),
]

UNSHOWN = [(TWO, ("3",)), (TWO, ("1", "3")), (TWO, ("3", "1")), (TWO, ("12", "123", "1")), (DAYS, ("33", "01", "02")),
           (DAYS, ("01", "02", "012")), (TWO, ("3", "3", "4", "5"))]

NO_WAYS_AT_ALL = [
    (), ((0,),), ((0,), (0, 1), (0,)), [(0,), (0, 1)], [[0], [0, 1]], {0: (0,), 1: (0, 1)}, {}, [], None, True, False,
    0, 1, 2, -1, 10 ** 5000, "", "01", "0", nested(tuple), nested(list), nested(dict),
]

NO_WAYS = [
    [0, 1], [], (), (0,), (1,), (0, 1, 0), (0, 1, 2), (0, 0), (1, 1), (-1, 0), (0, -1), (0, 2), (2, 0), (0, 10 ** 5000),
    (True, 0), (0, True), (False, 1), (1, False), (False, True), (None, 1), (0, None), ("0", "1"), (0, "1"), "01", "",
    ((0,), 1), (0, (1,)), ([0], 1), (0, {}), {0: 1}, {}, None, True, False, 0, 1, nested(tuple), nested(list),
]

CALLS = [
    cheapest, plan_paper, lambda group, numbers: effort_of(group, numbers, None),
    lambda group, numbers: shown_least(group, numbers, None),
]


def rows():
    """Each set with each of its rows of numbers."""
    return [(group, numbers) for group, found in ROWS for numbers in found]


def all_ways(group, numbers):
    """For each number all its ways."""
    return [plain_ways(group.cubes, group.turns, number) for number in numbers]


def plain_effort(numbers, ways):
    """How many cubes are touched in all, from nothing on."""
    many = plain_touched(numbers[0], ways[0], "", ())
    for place in range(1, len(numbers)):
        many += plain_touched(numbers[place], ways[place], numbers[place - 1], ways[place - 1])
    return many


def plain_cheapest(group, numbers):
    """The fewest cubes touched and the least ways, by going through all tuples of ways."""
    return min((plain_effort(numbers, ways), ways) for ways in itertools.product(*all_ways(group, numbers)))


def plain_paper(group, numbers):
    """For each way the fewest cubes touched behind it, by going through all that can stand behind it."""
    found = all_ways(group, numbers)
    table = []
    for place in range(len(numbers)):
        row = []
        for way in found[place]:
            tails = itertools.product([way], *found[place + 1:])
            row.append(min(plain_effort(numbers[place:], tail) for tail in tails) - len(numbers[place]))
        table.append(tuple(row))
    return tuple(table)


def changed(table, place, index, by):
    """A paper with another integer at one place."""
    row = table[place][:index] + (table[place][index] + by,) + table[place][index + 1:]
    return table[:place] + (row,) + table[place + 1:]


def plain_shows(group, numbers, table):
    """The bound that a tuple of tuples of integers shows, as the document says it; None if it shows none."""
    found = all_ways(group, numbers)
    if any(worth > 0 for worth in table[-1]):
        return None
    for place in range(len(numbers) - 1):
        for way, worth in zip(found[place], table[place]):
            for other, behind in zip(found[place + 1], table[place + 1]):
                if worth > plain_touched(numbers[place + 1], other, numbers[place], way) + behind:
                    return None
    return min(plain_touched(numbers[0], way, "", ()) + worth for way, worth in zip(found[0], table[0]))


class Cheapest(unittest.TestCase):
    def test_against_all_tuples_of_ways(self):
        for group, numbers in rows():
            self.assertEqual(cheapest(group, numbers), plain_cheapest(group, numbers), numbers)

    def test_all_short_rows_of_a_small_set(self):
        numbers = ["1", "2", "11", "12", "21", "22"]
        for many in (1, 2, 3, 4):
            for row in itertools.product(numbers, repeat=many):
                self.assertEqual(cheapest(TWO, row), plain_cheapest(TWO, row))

    def test_the_least_of_several(self):
        self.assertEqual(cheapest(TWO, ("12", "21")), (4, ((0, 1), (0, 1))))
        self.assertEqual(cheapest(TWO, ("1", "2")), (2, ((0,), (0,))))
        self.assertEqual(cheapest(Set(((1,), (1, 2), (2,))), ("1", "2", "21")), (3, ((0,), (1,), (1, 0))))
        self.assertEqual(cheapest(Set(((3,), (1, 2), (1,))), ("1", "12")), (2, ((2,), (2, 1))))

    def test_one_step_more_now_for_fewer_later(self):
        group = Set(((1, 2), (1,), (3,)))
        self.assertEqual(cheapest(group, ("1", "12", "13")), (3, ((1,), (1, 0), (1, 2))))

    def test_a_row_of_sixty_numbers(self):
        self.assertEqual(cheapest(TWO, ("12",) * 60), (2, ((0, 1),) * 60))
        self.assertEqual(cheapest(TWO, ("12", "21") * 30)[0], 120)
        numbers = tuple(str(day).zfill(2) for day in range(1, 32))
        found = cheapest(DAYS, numbers)
        self.assertEqual(found[0], effort_of(DAYS, numbers, found[1]))

    def test_a_number_that_is_not_shown(self):
        for group, numbers in UNSHOWN:
            self.assertIsNone(cheapest(group, numbers))

    def test_kinds(self):
        found = cheapest(TWO, ("1", "12"))
        self.assertEqual([part.__class__ for part in (found,) + found + found[1]], [tuple, int, tuple, tuple, tuple])


class Effort(unittest.TestCase):
    def test_any_ways(self):
        for group, numbers in rows():
            for ways in itertools.islice(itertools.product(*all_ways(group, numbers)), 2000):
                self.assertEqual(effort_of(group, numbers, ways), plain_effort(numbers, ways))

    def test_more_ways_than_cheapest_takes(self):
        self.assertEqual(effort_of(SIX, ("123456", "123456"), ((0, 1, 2, 3, 4, 5), (5, 1, 2, 3, 4, 0))), 8)

    def test_a_longer_and_a_shorter_number(self):
        self.assertEqual(effort_of(SIX, ("12", "1234", "1"), ((0, 1), (0, 1, 2, 3), (0,))), 4)
        self.assertEqual(effort_of(SIX, ("12", "1234", "2"), ((0, 1), (0, 5, 2, 3), (0,))), 6)

    def test_ways_that_are_no_tuple_of_as_many_things(self):
        for ways in NO_WAYS_AT_ALL:
            self.assertEqual(told(effort_of, TWO, ("1", "12"), ways), (BadWays, {"index": None}))

    def test_any_ways_at_all(self):
        for ways in ANY:
            self.assertEqual(told(effort_of, TWO, ("1",) * 7, ways), (BadWays, {"index": None}))
            self.assertEqual(told(effort_of, TWO, ("12",), (ways,)), (BadWays, {"index": 0}))

    def test_the_first_that_is_no_way_for_its_number(self):
        for wrong, ahead in itertools.product(NO_WAYS, (0, 1, 5)):
            numbers = ("1",) * ahead + ("12", "2")
            for last in ((1,), None):
                ways = ((0,),) * ahead + (wrong, last)
                self.assertEqual(told(effort_of, TWO, numbers, ways), (BadWays, {"index": ahead}))

    def test_a_cube_without_the_figure(self):
        group = Set(((1, 6), (2, 3)), ((6, 9),))
        self.assertEqual(effort_of(group, ("92",), ((0, 1),)), 2)
        for number in ("22", "12", "33", "21"):
            wrong = plain_ways(group.cubes, group.turns, number) != [(0, 1)]
            result = told(effort_of, group, (number,), ((0, 1),))
            self.assertEqual(result, (BadWays, {"index": 0}) if wrong else 2)

    def test_a_number_that_is_not_shown_has_no_way(self):
        self.assertEqual(told(effort_of, TWO, ("1", "3"), ((0,), (0,))), (BadWays, {"index": 1}))
        self.assertEqual(told(effort_of, TWO, ("1", "123"), ((0,), (0, 1, 1))), (BadWays, {"index": 1}))

    def test_kinds(self):
        self.assertIs(effort_of(TWO, ("1", "12"), ((0,), (1, 0))).__class__, int)


class PlanPaper(unittest.TestCase):
    def test_against_all_that_can_stand_behind(self):
        for group, numbers in rows():
            self.assertEqual(plan_paper(group, numbers), plain_paper(group, numbers), numbers)

    def test_its_bound_is_that_of_cheapest(self):
        for group, numbers in rows():
            self.assertEqual(shown_least(group, numbers, plan_paper(group, numbers)), cheapest(group, numbers)[0])

    def test_a_number_that_is_not_shown(self):
        for group, numbers in UNSHOWN:
            self.assertIsNone(plan_paper(group, numbers))

    def test_one_number(self):
        self.assertEqual(plan_paper(TWO, ("12",)), ((0, 0),))
        self.assertEqual(plan_paper(Set(((1,),)), ("1",)), ((0,),))

    def test_kinds(self):
        found = plan_paper(TWO, ("1", "12"))
        self.assertEqual({part.__class__ for part in (found,) + found}, {tuple})
        self.assertEqual({part.__class__ for row in found for part in row}, {int})


class ShownLeast(unittest.TestCase):
    def test_lesser_integers_show_a_bound_too(self):
        for group, numbers in rows():
            table = plan_paper(group, numbers)
            for place, row in enumerate(table):
                for index in range(len(row)):
                    for by in (-1, -2, -100, -10 ** 50):
                        value = changed(table, place, index, by)
                        self.assertEqual(shown_least(group, numbers, value), plain_shows(group, numbers, value))
            none = tuple(tuple(0 for _ in row) for row in table)
            self.assertEqual(shown_least(group, numbers, none), len(numbers[0]))
            low = tuple(tuple(-5 - place for _ in row) for place, row in enumerate(table))
            self.assertEqual(shown_least(group, numbers, low), plain_shows(group, numbers, low))

    def test_one_integer_too_great(self):
        for group, numbers in rows():
            table = plan_paper(group, numbers)
            for place, row in enumerate(table):
                for index in range(len(row)):
                    for by in (1, 2, 10 ** 50):
                        self.assertIsNone(shown_least(group, numbers, changed(table, place, index, by)))

    def test_each_small_paper(self):
        for numbers in (("1", "2"), ("1", "12"), ("12", "1")):
            many = [len(ways) for ways in all_ways(TWO, numbers)]
            for flat in itertools.product((-1, 0, 1, 2), repeat=sum(many)):
                value = (flat[:many[0]], flat[many[0]:])
                self.assertEqual(shown_least(TWO, numbers, value), plain_shows(TWO, numbers, value), value)

    def test_a_bound_below_nought(self):
        self.assertEqual(shown_least(TWO, ("1", "12"), ((-5, 1), (0, 0))), -4)
        self.assertEqual(shown_least(TWO, ("1",), ((0, -7),)), -6)

    def test_the_integers_of_the_last_number_may_be_less(self):
        self.assertEqual(shown_least(TWO, ("1", "12"), ((0, 0), (-1, -1))), 1)
        self.assertIsNone(shown_least(TWO, ("1", "12"), ((1, 1), (-1, -1))))
        self.assertIsNone(shown_least(TWO, ("1", "12"), ((0, 0), (0, 1))))

    def test_lists_in_place_of_tuples(self):
        for value in ([(1, 1), (0, 0)], ([1, 1], (0, 0)), ((1, 1), [0, 0]), [[1, 1], [0, 0]]):
            self.assertIsNone(shown_least(TWO, ("1", "12"), value))

    def test_wrong_lengths(self):
        for value in ((), ((1, 1),), ((1, 1), (0, 0), (0, 0)), ((1,), (0, 0)), ((1, 1), (0,)), ((1, 1, 1), (0, 0)),
                      ((1, 1), (0, 0, 0)), ((), ()), ((1, 1), ()), ((1, 1, 0, 0),), (1, 1, 0, 0)):
            self.assertIsNone(shown_least(TWO, ("1", "12"), value))

    def test_booleans_are_no_integers(self):
        for value in (((True, 1), (0, 0)), ((1, True), (0, 0)), ((1, 1), (False, 0)), ((1, 1), (0, False)),
                      (True, (0, 0)), ((1, 1), False), ((False, False), (False, False))):
            self.assertIsNone(shown_least(TWO, ("1", "12"), value))

    def test_any_value(self):
        for value in ANY:
            for other in (value, (value, (0, 0)), ((1, 1), value), ((value, 1), (0, 0)), ((1, 1), (0, value)),
                          (value, value)):
                found = None
                if value.__class__ is int and other in (((value, 1), (0, 0)), ((1, 1), (0, value))):
                    found = plain_shows(TWO, ("1", "12"), other)
                self.assertEqual(shown_least(TWO, ("1", "12"), other), found)

    def test_a_number_that_is_not_shown(self):
        for group, numbers in UNSHOWN:
            ways = all_ways(group, numbers)
            for value in (None, (), ((),), ((0, 0), ()), ((), (0, 0)), tuple(tuple(0 for _ in row) for row in ways)):
                self.assertIsNone(shown_least(group, numbers, value))

    def test_kinds(self):
        self.assertIs(shown_least(TWO, ("1", "12"), ((1, 1), (0, 0))).__class__, int)


class TooManyWays(unittest.TestCase):
    FIVE = Set((FIGURES,) * 5)

    def test_sixty_ways_are_not(self):
        self.assertEqual(len(all_ways(self.FIVE, ("123",))[0]), 60)
        self.assertEqual(cheapest(self.FIVE, ("123", "124"))[0], 4)
        table = plan_paper(self.FIVE, ("123", "124"))
        self.assertEqual([len(row) for row in table], [60, 60])
        self.assertEqual(shown_least(self.FIVE, ("123", "124"), table), 4)

    def test_sixty_one_ways_are(self):
        group = Set(((0, 2, 3), (0, 1), (0, 2, 3), (0, 2), (0, 1, 3), (1, 3)))
        self.assertEqual(len(all_ways(group, ("2031",))[0]), 61)
        self.assertEqual(told(cheapest, group, ("0", "2031")), (TooMany, {}))
        self.assertEqual(told(plan_paper, group, ("2031", "0")), (TooMany, {}))
        self.assertEqual(told(shown_least, group, ("2031",), ((0,) * 61,)), (TooMany, {}))

    def test_more_are(self):
        for group, number in ((SIX, "123"), (SIX, "111"), (self.FIVE, "1234"), (self.FIVE, "12345"), (SIX, "123456"),
                              (Set((FIGURES,) * 4 + ((0, 1), (0, 2, 3))), "011")):
            self.assertGreater(len(all_ways(group, (number,))[0]), 60)
            for numbers in ((number,), ("1", number), (number, "1"), ("1", "2", number, "3"), (number, number)):
                self.assertEqual(told(cheapest, group, numbers), (TooMany, {}))
                self.assertEqual(told(plan_paper, group, numbers), (TooMany, {}))
                for value in (None, (), ((0,),), [], True):
                    self.assertEqual(told(shown_least, group, numbers, value), (TooMany, {}))

    def test_whatever_the_others_are(self):
        group = Set((FIGURES[:9],) * 6)
        for numbers in (("123", "9"), ("9", "123"), ("9", "99", "123", "9"), ("123",) + ("9",) * 59):
            self.assertEqual(told(cheapest, group, numbers), (TooMany, {}))
            self.assertEqual(told(plan_paper, group, numbers), (TooMany, {}))
            self.assertEqual(told(shown_least, group, numbers, ()), (TooMany, {}))

    def test_effort_of_takes_any_number(self):
        self.assertEqual(effort_of(SIX, ("123",), ((0, 1, 2),)), 3)
        self.assertEqual(told(effort_of, SIX, ("123",), None), (BadWays, {"index": None}))


class WrongNeeded(unittest.TestCase):
    WRONG = [((), None), (["1"], None), ("1", None), (("1",) * 61, None), (None, None), (True, None), ({}, None),
             (("",), 0), (("1", "2", True), 2), (("1", "1234567"), 1), (("1",) * 59 + (1,), 59), ((("1",), "1"), 0)]

    def test_the_index_of_what_is_none(self):
        for call, (numbers, index) in itertools.product(CALLS, self.WRONG):
            self.assertEqual(told(call, TWO, numbers), (BadNeeded, {"index": index}))

    def test_each_value_that_is_no_number(self):
        for call, wrong in itertools.product(CALLS, NO_NUMBERS):
            self.assertEqual(told(call, TWO, ("1", wrong)), (BadNeeded, {"index": 1}))

    def test_needed_is_named_ahead_of_all_else(self):
        for call, numbers in itertools.product(CALLS, (("123", ""), ("3", "123", ""), ("123456", "9", ""))):
            self.assertEqual(told(call, SIX, numbers), (BadNeeded, {"index": len(numbers) - 1}))
        for ways, (numbers, index) in itertools.product(NO_WAYS_AT_ALL + [((0, 0),)], self.WRONG):
            self.assertEqual(told(effort_of, TWO, numbers, ways), (BadNeeded, {"index": index}))
            self.assertEqual(told(shown_least, TWO, numbers, ways), (BadNeeded, {"index": index}))


class NothingChanges(unittest.TestCase):
    def test_arguments_stay_as_they_were(self):
        for value in ANY + NO_WAYS + NO_WAYS_AT_ALL:
            before = copy.deepcopy(value)
            for numbers in (value, ("1", value)):
                for call in CALLS:
                    told(call, TWO, numbers)
            for other in (value, (value, (0, 0))):
                told(effort_of, TWO, ("1", "12"), other)
                told(shown_least, TWO, ("1", "12"), other)
            self.assertEqual(value, before)
        self.assertEqual(TWO, Set(((1, 2), (1, 2))))

    def test_repeated_calls_give_equal_results(self):
        for group, numbers in rows():
            for call in (cheapest, plan_paper):
                self.assertEqual(call(group, numbers), call(group, numbers))


if __name__ == "__main__":
    unittest.main()
