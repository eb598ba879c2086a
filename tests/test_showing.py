import copy
import itertools
import unittest

from daycubes.errors import BadFigures
from daycubes.sets import Set
from daycubes.showing import how, lacking, shows, ways
from helper import DAYS, FIGURES, GROUPS, WRONG_NUMBERS, plain_has, plain_ways

SETS = GROUPS + [
    Set(((9,),), ((6, 9),)),
    Set(((1,), (2, 3)), ((0, 1), (2, 3), (4, 5), (6, 7), (8, 9))),
    Set((FIGURES,) * 6),
]

LONG_NUMBERS = [
    "0000", "0012", "0120", "1234", "2222", "4455", "6969", "9876", "0001", "4444", "1188",
    "00000", "01234", "43210", "22555", "55522", "69000", "90120", "77899", "01010",
    "000000", "012345", "225555", "555522", "012789", "987210", "000789", "696969", "111111", "255552", "777012",
]

NUMBERS = [
    "".join(signs) for many in (1, 2) for signs in itertools.product("0123456789", repeat=many)
] + [str(number).zfill(3) for number in range(0, 1000, 7)] + LONG_NUMBERS

CALLS = [shows, how, ways, lacking]


def plain_lacking(group, number):
    """The places with too few cubes, and these, by a search over all sets of places; None if there are none."""
    found = []
    for chosen in itertools.product((False, True), repeat=len(number)):
        places = tuple(place for place, taken in enumerate(chosen) if taken)
        cubes = tuple(cube for cube in range(len(group.cubes))
                      if any(plain_has(group.cubes, group.turns, cube, number[place]) for place in places))
        if len(cubes) < len(places):
            found.append((len(places), places, cubes))
    return min(found)[1:] if found else None


class AgainstPlainSearch(unittest.TestCase):
    def test_ways_how_and_shows(self):
        for group, number in itertools.product(SETS, NUMBERS):
            found = plain_ways(group.cubes, group.turns, number)
            self.assertEqual(ways(group, number), len(found))
            self.assertEqual(how(group, number), found[0] if found else None)
            self.assertIs(shows(group, number), bool(found))

    def test_lacking(self):
        for group, number in itertools.product(SETS, NUMBERS):
            self.assertEqual(lacking(group, number), plain_lacking(group, number))

    def test_lacking_is_none_just_if_the_number_is_shown(self):
        for group, number in itertools.product(SETS, NUMBERS):
            self.assertIs(lacking(group, number) is None, shows(group, number))

    def test_small_sets_throughout(self):
        cubes = [cube for many in (1, 2, 3) for cube in itertools.combinations(range(3), many)]
        numbers = ["".join(signs) for many in (1, 2, 3) for signs in itertools.product("012", repeat=many)]
        for many, turns in itertools.product((1, 2), ((), ((0, 1),), ((0, 2),), ((1, 2),), ((2, 3),))):
            for chosen in itertools.product(cubes, repeat=many):
                group = Set(chosen, turns)
                for number in numbers:
                    self.assertEqual(ways(group, number), len(plain_ways(group.cubes, group.turns, number)))
                    self.assertEqual(lacking(group, number), plain_lacking(group, number))


class Edges(unittest.TestCase):
    def test_results_are_of_the_listed_kinds(self):
        for number in ("12", "33"):
            self.assertIs(shows(DAYS, number).__class__, bool)
            self.assertIs(ways(DAYS, number).__class__, int)
        self.assertIs(how(DAYS, "12").__class__, tuple)
        self.assertEqual([part.__class__ for part in how(DAYS, "12")], [int, int])
        self.assertEqual([part.__class__ for part in lacking(DAYS, "33")], [tuple, tuple])
        self.assertIs(lacking(DAYS, "33").__class__, tuple)

    def test_turned_figures_stand_for_one_another_both_ways(self):
        for a, b in itertools.combinations(range(10), 2):
            for face, figure in ((a, b), (b, a)):
                group = Set(((face,),), ((a, b),))
                self.assertEqual([sign for sign in "0123456789" if shows(group, sign)], [str(a), str(b)])
                self.assertIs(shows(Set(((face,),)), str(figure)), False)

    def test_turned_figures_in_any_place(self):
        group = Set(((6,), (1,), (2,)), ((1, 8), (6, 9)))
        for signs in itertools.product(("6", "9"), ("1", "8"), ("2",)):
            for order in itertools.permutations(range(3)):
                number = "".join(signs[place] for place in order)
                self.assertEqual((how(group, number), ways(group, number)), (order, 1))

    def test_each_pair_of_five_turns(self):
        turns = ((0, 5), (1, 6), (2, 7), (3, 8), (4, 9))
        for figure in range(10):
            group = Set(((figure,),), turns)
            self.assertEqual([sign for sign in "0123456789" if shows(group, sign)],
                             [str(figure % 5), str(figure % 5 + 5)])

    def test_one_cube_shows_but_one_place(self):
        group = Set((FIGURES, (6,)), ((6, 9),))
        self.assertEqual(how(group, "69"), (0, 1))
        self.assertEqual(how(Set(((6, 9),), ((6, 9),)), "69"), None)
        self.assertEqual(lacking(Set(((6, 9),), ((6, 9),)), "69"), ((0, 1), (0,)))

    def test_both_figures_of_a_pair_on_one_cube_count_once(self):
        group = Set(((6, 9), (6,)), ((6, 9),))
        self.assertEqual((ways(group, "6"), ways(group, "96")), (2, 2))

    def test_cubes_may_be_left_over(self):
        self.assertEqual((how(Set((FIGURES,) * 6), "7"), ways(Set((FIGURES,) * 6), "7")), ((0,), 6))

    def test_noughts_ahead_need_cubes_too(self):
        group = Set(((0, 1), (1,)))
        self.assertEqual([shows(group, number) for number in ("1", "01", "10", "00", "001")],
                         [True, True, True, False, False])
        self.assertEqual(lacking(group, "001"), ((0, 1), (0,)))

    def test_numbers_of_one_and_of_six_signs(self):
        group = Set((FIGURES,) * 6)
        self.assertEqual((how(group, "0"), ways(group, "0")), ((0,), 6))
        self.assertEqual((how(group, "999999"), ways(group, "999999")), ((0, 1, 2, 3, 4, 5), 720))

    def test_more_signs_than_cubes(self):
        self.assertEqual(lacking(Set((FIGURES,) * 5), "123456"), ((0, 1, 2, 3, 4, 5), (0, 1, 2, 3, 4)))

    def test_a_figure_on_no_cube(self):
        self.assertEqual(lacking(DAYS, "9"), None)
        self.assertEqual(lacking(Set(((1,), (2,))), "13"), ((1,), ()))
        self.assertEqual(lacking(Set(((1,), (2,))), "4113"), ((0,), ()))

    def test_the_least_of_the_fewest_places(self):
        group = Set(((1,), (2,), (3,), (3,)))
        self.assertEqual(lacking(group, "2211"), ((0, 1), (1,)))
        self.assertEqual(lacking(group, "1212"), ((0, 2), (0,)))
        self.assertEqual(lacking(group, "333122"), ((4, 5), (1,)))

    def test_the_least_way_comes_by_the_first_place(self):
        self.assertEqual(how(Set(((2,), (1, 2), (1,))), "12"), (1, 0))
        self.assertEqual(how(Set(((1,), (1, 2), (2,))), "21"), (1, 0))


class WrongNumbers(unittest.TestCase):
    def test_any_value_that_is_no_number(self):
        for call, value in itertools.product(CALLS, WRONG_NUMBERS):
            with self.assertRaises(BadFigures):
                call(DAYS, value)

    def test_no_signs_and_seven_signs(self):
        for call, group in itertools.product(CALLS, (DAYS, Set((FIGURES,) * 6))):
            for number in ("", "0123456", "0000001"):
                with self.assertRaises(BadFigures):
                    call(group, number)

    def test_each_sign_that_is_no_figure_of_ascii(self):
        for code in range(0x3000):
            if chr(code) not in "0123456789":
                with self.assertRaises(BadFigures):
                    shows(DAYS, chr(code))


class NothingChanges(unittest.TestCase):
    def test_repeated_calls_give_equal_results(self):
        for call, group, number in itertools.product(CALLS, SETS, LONG_NUMBERS + ["1", "33", "96"]):
            before = (copy.deepcopy(group.cubes), copy.deepcopy(group.turns))
            self.assertEqual(call(group, number), call(group, number))
            self.assertEqual(before, (group.cubes, group.turns))

    def test_a_call_that_raises_changes_nothing(self):
        group = Set(((0, 1), (6,)), ((6, 9),))
        before = [call(group, "91") for call in CALLS]
        for call, value in itertools.product(CALLS, WRONG_NUMBERS):
            kept = copy.deepcopy(value)
            with self.assertRaises(BadFigures):
                call(group, value)
            self.assertEqual(value, kept)
        self.assertEqual(group, Set(((0, 1), (6,)), ((6, 9),)))
        self.assertEqual([call(group, "91") for call in CALLS], before)


if __name__ == "__main__":
    unittest.main()
