import copy
import itertools
import unittest

from daycubes.counting import all_shown, count_shown, first_missing, shown_numbers
from daycubes.errors import BadRange, BadWidth
from daycubes.sets import Set
from daycubes.showing import shows
from helper import ANY, nested, told

FIGURES = tuple(range(10))

DAYS = Set(((0, 1, 2, 3, 4, 5), (0, 1, 2, 6, 7, 8)), ((6, 9),))

FULL = Set((FIGURES,) * 4)

SETS = [
    DAYS,
    FULL,
    Set(((0,),)),
    Set((FIGURES,)),
    Set(((6,),), ((6, 9),)),
    Set(((1,), (2, 3))),
    Set(((1,), (2, 3)), ((0, 1), (2, 3), (4, 5), (6, 7), (8, 9))),
    Set(((1, 6), (1, 6), (2, 9)), ((6, 9),)),
    Set(((0, 1), (1, 2), (2, 3), (0, 3))),
    Set(((4, 5), (4, 5), (4, 5), (0, 1, 2, 3)), ((0, 9), (1, 8), (2, 7), (3, 6))),
    Set(((0,), (0, 1), (0, 1, 2), (0, 1, 2, 3), (0, 1, 2, 3, 4))),
    Set(((0, 1, 2), (0, 1, 2), (0, 1, 2), (7, 8), (7, 8), (9,)), ((6, 9),)),
]

NO_WIDTHS = [
    0, 5, 6, -1, 10 ** 5000, -10 ** 5000, True, False, None, "1", "", "2", (1,), (), [1], [], {1: 1}, {},
    nested(tuple), nested(list), nested(dict),
]

NO_ENDS = [-1, 10000, 10 ** 5000, -10 ** 5000, True, False, None, "1", "", (1,), (), [1], [], {1: 1}, {}, nested(list)]

RANGE_CALLS = [first_missing, shown_numbers]

RANGES = [
    (0, 0), (1, 1), (9, 9), (33, 33), (9999, 9999), (0, 9), (0, 99), (1, 31), (1, 99), (12, 13), (90, 110),
    (995, 1005), (0, 1234), (9990, 9999),
]


def numbers_of(width):
    """All numbers of so many signs, ascending."""
    return ["".join(signs) for signs in itertools.product("0123456789", repeat=width)]


def written(number, width):
    """An integer as it is written in a width."""
    return "0" * (width - len(str(number))) + str(number)


def missing_of(group, low, high, width):
    """The integers of a range that are not shown."""
    return [number for number in range(low, high + 1) if not shows(group, written(number, width))]


class AllShown(unittest.TestCase):
    def test_against_shows_for_every_number(self):
        for group, width in itertools.product(SETS, (1, 2, 3, 4)):
            shown = [number for number in numbers_of(width) if shows(group, number)]
            self.assertEqual(all_shown(group, width), shown)
            self.assertEqual(count_shown(group, width), len(shown))

    def test_ascending_and_no_number_twice(self):
        for group, width in itertools.product(SETS, (1, 2, 3, 4)):
            shown = all_shown(group, width)
            self.assertEqual(shown, sorted(set(shown)))
            self.assertEqual({len(number) for number in shown} - {width}, set())

    def test_fewer_cubes_than_the_width(self):
        for many in range(1, 4):
            group = Set((FIGURES,) * many, ((6, 9),))
            for width in range(1, 5):
                self.assertEqual(count_shown(group, width), 10 ** width if width <= many else 0)
                if width > many:
                    self.assertEqual(all_shown(group, width), [])

    def test_some_counts_by_hand(self):
        self.assertEqual(all_shown(Set(((6,),), ((6, 9),)), 1), ["6", "9"])
        self.assertEqual(all_shown(Set(((0,), (0,))), 2), ["00"])
        self.assertEqual(all_shown(Set(((0,), (6,)), ((6, 9),)), 2), ["06", "09", "60", "90"])
        self.assertEqual(all_shown(Set(((6, 9), (9,)), ((6, 9),)), 2), ["66", "69", "96", "99"])
        self.assertEqual(count_shown(Set((FIGURES,) * 6), 4), 10000)
        self.assertEqual(count_shown(Set(((1,), (2,), (3,), (4,))), 4), 24)
        self.assertEqual(all_shown(Set(((1,), (2,), (3,))), 3), ["123", "132", "213", "231", "312", "321"])

    def test_kinds(self):
        self.assertIs(all_shown(DAYS, 2).__class__, list)
        self.assertEqual({number.__class__ for number in all_shown(DAYS, 2)}, {str})
        self.assertIs(count_shown(DAYS, 2).__class__, int)


class Ranges(unittest.TestCase):
    def test_against_shows_for_every_integer(self):
        for group, (low, high), width in itertools.product(SETS, RANGES, (1, 2, 3, 4)):
            missing = missing_of(group, low, high, width)
            self.assertEqual(first_missing(group, low, high, width), missing[0] if missing else None)
            self.assertEqual(shown_numbers(group, low, high, width), high - low + 1 - len(missing))

    def test_the_whole_range(self):
        for group, width in itertools.product((DAYS, FULL, SETS[8]), (1, 2, 3, 4)):
            missing = missing_of(group, 0, 9999, width)
            self.assertEqual(first_missing(group, 0, 9999, width), missing[0] if missing else None)
            self.assertEqual(shown_numbers(group, 0, 9999, width), 10000 - len(missing))

    def test_one_integer(self):
        for number, shown in ((12, True), (33, False), (9, True), (7, True), (66, False), (0, True)):
            self.assertEqual(first_missing(DAYS, number, number, 2), None if shown else number)
            self.assertEqual(shown_numbers(DAYS, number, number, 2), 1 if shown else 0)

    def test_nothing_missing(self):
        for low, high in RANGES:
            for width in (1, 2, 3, 4):
                self.assertIsNone(first_missing(FULL, low, high, width))
                self.assertEqual(shown_numbers(FULL, low, high, width), high - low + 1)

    def test_all_missing(self):
        group = Set(((0,), (0,), (0,), (0,)))
        self.assertEqual((first_missing(group, 1, 9999, 4), shown_numbers(group, 1, 9999, 4)), (1, 0))
        self.assertEqual((first_missing(group, 40, 44, 3), shown_numbers(group, 40, 44, 3)), (40, 0))
        self.assertEqual((first_missing(DAYS, 100, 9999, 1), shown_numbers(DAYS, 100, 9999, 1)), (100, 0))

    def test_noughts_ahead_are_shown_too(self):
        group = Set(((0, 1), (1, 2)))
        self.assertEqual([shown_numbers(group, 1, 1, width) for width in (1, 2, 3, 4)], [1, 1, 0, 0])
        self.assertEqual([first_missing(group, 0, 0, width) for width in (1, 2, 3, 4)], [None, 0, 0, 0])
        self.assertEqual([shown_numbers(group, 2, 2, width) for width in (1, 2, 3, 4)], [1, 1, 0, 0])

    def test_more_figures_than_the_width(self):
        group = Set(((1,), (2,), (3,)))
        for width in (1, 2, 3):
            self.assertEqual(shown_numbers(group, 123, 123, width), 1)
            self.assertIsNone(first_missing(group, 321, 321, width))
        self.assertEqual(shown_numbers(group, 123, 123, 4), 0)
        self.assertEqual([shown_numbers(group, 0, 9999, width) for width in (1, 2, 3, 4)], [15, 12, 6, 0])
        self.assertEqual(first_missing(DAYS, 1, 9999, 1), 33)
        self.assertEqual(first_missing(Set((FIGURES, FIGURES)), 0, 9999, 1), 100)
        self.assertEqual(first_missing(Set((FIGURES,) * 3), 5, 9999, 2), 1000)

    def test_nought_and_the_greatest(self):
        self.assertEqual(first_missing(Set(((1,),)), 0, 9, 1), 0)
        self.assertEqual(first_missing(Set(((0,),)), 0, 9, 1), 1)
        self.assertIsNone(first_missing(Set(((0,),)), 0, 0, 1))
        nines = Set(((6,), (9,), (6,), (9,)), ((6, 9),))
        self.assertIsNone(first_missing(nines, 9999, 9999, 4))
        self.assertEqual(shown_numbers(nines, 0, 9999, 4), 16)
        self.assertEqual(first_missing(Set(((9,), (9,), (9,))), 9999, 9999, 1), 9999)

    def test_kinds(self):
        self.assertIs(first_missing(DAYS, 1, 99, 2).__class__, int)
        self.assertIs(shown_numbers(DAYS, 1, 99, 2).__class__, int)
        self.assertIs(first_missing(DAYS, 33, 33, 2).__class__, int)


class WrongWidths(unittest.TestCase):
    def test_any_value_that_is_no_width(self):
        for value in NO_WIDTHS + [value for value in ANY if value is True or value != 1]:
            for call in (all_shown, count_shown):
                self.assertEqual(told(call, DAYS, value), (BadWidth, {}))
            for call in RANGE_CALLS:
                self.assertEqual(told(call, DAYS, 1, 31, value), (BadWidth, {}))

    def test_each_width_that_is_one(self):
        for width in (1, 2, 3, 4):
            self.assertEqual(all_shown(Set(((1,),)), width), ["1"] if width == 1 else [])


class WrongRanges(unittest.TestCase):
    def test_a_low_or_high_that_is_none(self):
        for call, value in itertools.product(RANGE_CALLS, NO_ENDS):
            self.assertEqual(told(call, DAYS, value, 31, 2), (BadRange, {}))
            self.assertEqual(told(call, DAYS, 1, value, 2), (BadRange, {}))
            self.assertEqual(told(call, DAYS, value, value, 2), (BadRange, {}))

    def test_booleans_are_no_integers(self):
        for call in RANGE_CALLS:
            for low, high in ((False, 1), (0, True), (True, 1), (False, True), (False, 0)):
                self.assertEqual(told(call, DAYS, low, high, 1), (BadRange, {}))

    def test_any_value(self):
        integers = [0, 1, 9, 10]
        for call, value in itertools.product(RANGE_CALLS, ANY):
            if value.__class__ is not int or value not in integers:
                self.assertEqual(told(call, DAYS, value, 9999, 2), (BadRange, {}))
                self.assertEqual(told(call, DAYS, 0, value, 2), (BadRange, {}))

    def test_high_less_than_low(self):
        for call, (low, high) in itertools.product(RANGE_CALLS, ((1, 0), (9999, 9998), (9999, 0), (32, 31))):
            self.assertEqual(told(call, DAYS, low, high, 2), (BadRange, {}))

    def test_the_range_is_named_ahead_of_the_width(self):
        wrong = [(value, 31) for value in NO_ENDS] + [(0, value) for value in NO_ENDS] + [(2, 1)]
        for call, (low, high), width in itertools.product(RANGE_CALLS, wrong, NO_WIDTHS):
            self.assertEqual(told(call, DAYS, low, high, width), (BadRange, {}))


class NothingChanges(unittest.TestCase):
    def test_repeated_calls_give_equal_and_new_results(self):
        group = Set(((0, 1), (6,)), ((6, 9),))
        first = all_shown(group, 2)
        first.append("77")
        self.assertEqual(all_shown(group, 2), ["06", "09", "16", "19", "60", "61", "90", "91"])
        for call in (all_shown, count_shown):
            self.assertEqual(call(group, 2), call(group, 2))
        for call in RANGE_CALLS:
            self.assertEqual(call(group, 0, 99, 2), call(group, 0, 99, 2))
        self.assertEqual(group, Set(((0, 1), (6,)), ((6, 9),)))

    def test_a_call_that_raises_changes_nothing(self):
        group = Set(((0, 1), (6,)), ((6, 9),))
        for value in NO_WIDTHS + NO_ENDS + ANY:
            before = copy.deepcopy(value)
            told(all_shown, group, value)
            told(first_missing, group, value, value, value)
            self.assertEqual(value, before)
        self.assertEqual(group, Set(((0, 1), (6,)), ((6, 9),)))


if __name__ == "__main__":
    unittest.main()
