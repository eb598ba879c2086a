import copy
import itertools
import math
import unittest

from daycubes.counting import all_shown, count_shown
from daycubes.errors import BadFigures, BadNumber, BadWidth
from daycubes.great import great_count, kth_shown, rank_shown
from daycubes.sets import Set
from helper import ANY, DAYS, FIGURES, GROUPS, WRONG_NUMBERS, nested, plain_match, shown_signs, told

# Sets of one to six cubes that show few enough numbers to go through all of them, of any width.
SMALL = [
    Set(((1,),)),
    Set((FIGURES,)),
    Set(((6,),), ((6, 9),)),
    Set(((1, 6), (2, 3)), ((6, 9),)),
    Set(((1, 2), (1, 2), (2, 3))),
    Set(((0, 1), (1, 9), (0, 8), (2, 3)), ((6, 9),)),
    Set(((0,), (0, 1), (0, 1, 2), (0, 1, 2), (4, 5))),
    Set(((0, 1), (1, 2), (2, 3), (3, 4), (0, 4)), ((4, 7),)),
    Set(((0,), (0, 1), (0, 1), (2,), (2, 9), (5,)), ((6, 9),)),
    Set(((1,), (1,), (1,), (1,), (1,), (1,)), ((1, 2),)),
    Set(((0,), (1,), (2,), (3,), (4,), (5,))),
]

NO_WIDTHS = [
    0, 7, -1, 10 ** 5000, -10 ** 5000, True, False, None, "1", "", "6", (1,), (), [1], [], {1: 1}, {}, nested(tuple),
    nested(list), nested(dict),
]

NO_PLACES = [-1, -10 ** 5000, 10 ** 5000, True, False, None, "0", "", "1", (0,), (), [0], [], {0: 0}, {}, nested(tuple)]


def orders(row):
    """In how many orders the signs of a row can stand."""
    many = math.factorial(len(row))
    for sign in set(row):
        many //= math.factorial(row.count(sign))
    return many


def all_numbers(group, width):
    """The ascending list of all numbers of so many signs that a set shows."""
    rows = shown_signs(group, width)
    return sorted("".join(order) for row in rows for order in set(itertools.permutations(row)))


class GreatCount(unittest.TestCase):
    def test_against_count_shown(self):
        for group, width in itertools.product(GROUPS + SMALL, (1, 2, 3, 4)):
            self.assertEqual(great_count(group, width), count_shown(group, width))

    def test_against_all_rows_of_signs_and_their_orders(self):
        for group, width in itertools.product(GROUPS + SMALL, (5, 6)):
            self.assertEqual(great_count(group, width), sum(orders(row) for row in shown_signs(group, width)))

    def test_against_all_numbers(self):
        group = Set(((0, 1, 2), (0, 1, 2), (2, 3), (3, 4), (4, 8)), ((8, 9),))
        numbers = itertools.product("0123456789", repeat=5)
        known = {}
        for number in numbers:
            signs = tuple(sorted(number))
            known[signs] = known.get(signs, 0) + 1
        many = sum(known[signs] for signs in known if plain_match(group.cubes, group.turns, signs))
        self.assertEqual(great_count(group, 5), many)

    def test_some_counts_by_hand(self):
        self.assertEqual([great_count(Set((FIGURES,) * 6), width) for width in range(1, 7)],
                         [10, 100, 1000, 10000, 100000, 1000000])
        self.assertEqual([great_count(Set(((0,), (1,), (2,), (3,), (4,), (5,))), width) for width in range(1, 7)],
                         [6, 30, 120, 360, 720, 720])
        self.assertEqual([great_count(Set(((6,),) * 6, ((6, 9),)), width) for width in range(1, 7)],
                         [2, 4, 8, 16, 32, 64])
        self.assertEqual([great_count(DAYS, width) for width in range(1, 7)], [10, 75, 0, 0, 0, 0])

    def test_fewer_cubes_than_the_width(self):
        for many in range(1, 7):
            for width in range(1, 7):
                found = great_count(Set((FIGURES,) * many, ((6, 9),)), width)
                self.assertEqual(found, 10 ** width if width <= many else 0)

    def test_kinds(self):
        for width in range(1, 7):
            self.assertIs(great_count(DAYS, width).__class__, int)


class KthAndRank(unittest.TestCase):
    def test_against_the_list_of_all(self):
        for group, width in itertools.product(SMALL, range(1, 7)):
            numbers = all_numbers(group, width)
            self.assertEqual(great_count(group, width), len(numbers))
            for k in range(0, len(numbers), 1 + len(numbers) // 60):
                self.assertEqual(kth_shown(group, width, k), numbers[k])
                self.assertEqual(rank_shown(group, numbers[k]), k)

    def test_the_first_and_the_last(self):
        for group, width in itertools.product(GROUPS + SMALL, range(1, 7)):
            rows = ["".join(row) for row in shown_signs(group, width)]
            if rows:
                last = max(row[::-1] for row in rows)
                many = great_count(group, width)
                self.assertEqual((kth_shown(group, width, 0), rank_shown(group, rows[0])), (rows[0], 0))
                self.assertEqual((kth_shown(group, width, many - 1), rank_shown(group, last)), (last, many - 1))

    def test_against_all_shown(self):
        for group, width in itertools.product(GROUPS, (1, 2, 3)):
            numbers = all_shown(group, width)
            for k in range(0, len(numbers), 1 + len(numbers) // 40):
                self.assertEqual(kth_shown(group, width, k), numbers[k])
                self.assertEqual(rank_shown(group, numbers[k]), k)

    def test_there_and_back(self):
        for group, width in itertools.product(GROUPS, (4, 5, 6)):
            many = great_count(group, width)
            for k in range(0, many, 1 + many // 25):
                self.assertEqual(rank_shown(group, kth_shown(group, width, k)), k)

    def test_all_numbers_of_six_cubes_with_all_figures(self):
        group = Set((FIGURES,) * 6)
        for number in ("0", "7", "00", "42", "999", "0123", "98765", "000000", "123456", "999999"):
            self.assertEqual(rank_shown(group, number), int(number))
            self.assertEqual(kth_shown(group, len(number), int(number)), number)

    def test_a_number_that_is_not_shown(self):
        for group, width in itertools.product(SMALL, (1, 2, 3)):
            shown = all_shown(group, width)
            for number in ("".join(signs) for signs in itertools.product("0123456789", repeat=width)):
                if number not in shown:
                    self.assertIsNone(rank_shown(group, number))
        for number in ("33", "69", "012", "0123", "01234", "012345", "999999"):
            self.assertIsNone(rank_shown(DAYS, number))

    def test_kinds(self):
        self.assertIs(kth_shown(DAYS, 2, 7).__class__, str)
        self.assertIs(rank_shown(DAYS, "12").__class__, int)


class WrongArguments(unittest.TestCase):
    def test_a_width_that_is_none(self):
        for value in NO_WIDTHS + [value for value in ANY if value is True or value != 1]:
            self.assertEqual(told(great_count, DAYS, value), (BadWidth, {}))
            self.assertEqual(told(kth_shown, DAYS, value, 0), (BadWidth, {}))

    def test_each_width_that_is_one(self):
        for width in range(1, 7):
            self.assertIs(great_count(DAYS, width).__class__, int)

    def test_k_that_is_none(self):
        for group, width in itertools.product(GROUPS, range(1, 7)):
            many = great_count(group, width)
            for k in NO_PLACES + [many, many + 1]:
                self.assertEqual(told(kth_shown, group, width, k), (BadNumber, {}))
            if many == 0:
                for k in (0, 1):
                    self.assertEqual(told(kth_shown, group, width, k), (BadNumber, {}))

    def test_any_k(self):
        for k in ANY:
            if k.__class__ is not int or not 0 <= k < 75:
                self.assertEqual(told(kth_shown, DAYS, 2, k), (BadNumber, {}))
            self.assertEqual(told(kth_shown, DAYS, 3, k), (BadNumber, {}))

    def test_the_width_is_named_ahead_of_k(self):
        for width, k in itertools.product(NO_WIDTHS, NO_PLACES):
            self.assertEqual(told(kth_shown, DAYS, width, k), (BadWidth, {}))

    def test_any_value_that_is_no_number(self):
        for value in WRONG_NUMBERS:
            self.assertEqual(told(rank_shown, DAYS, value), (BadFigures, {}))


class NothingChanges(unittest.TestCase):
    def test_repeated_calls_give_equal_results(self):
        for group in GROUPS:
            before = (copy.deepcopy(group.cubes), copy.deepcopy(group.turns))
            for width in (1, 2, 5):
                self.assertEqual(great_count(group, width), great_count(group, width))
                self.assertEqual(told(kth_shown, group, width, 3), told(kth_shown, group, width, 3))
            self.assertEqual(rank_shown(group, "12"), rank_shown(group, "12"))
            self.assertEqual((group.cubes, group.turns), before)

    def test_arguments_stay_as_they_were(self):
        for value in ANY:
            before = copy.deepcopy(value)
            told(great_count, DAYS, value)
            told(kth_shown, DAYS, value, value)
            told(kth_shown, DAYS, 2, value)
            told(rank_shown, DAYS, value)
            self.assertEqual(value, before)


if __name__ == "__main__":
    unittest.main()
