import copy
import itertools
import unittest

from daycubes.errors import BadCubes, BadTurns
from daycubes.sets import Set
from helper import ANY, NO_TURNS, nested, told

FIGURES = tuple(range(10))

NO_CUBES_AT_ALL = [
    (), ((1,),) * 7, ((1,),) * 100, [(1,)], [], {}, {(1,): 1}, None, True, 0, 1, -1, 10 ** 5000, "", "1", "123",
    nested(list), nested(dict),
]

NO_CUBES = [
    (), (-1,), (10,), (0, 10), (-1, 0), (9, 10), (1, 1), (2, 1), (0, 2, 1), (0, 1, 1), (9, 0), (0, 0),
    (True,), (False,), (False, True), (0, True), (False, 1), (True, 2), (None,), ("1",), ("1", "2"), (1, None),
    (1, "2"), ((1,),), ((1,), (2,)), (1, (2,)), (10 ** 5000,), (-10 ** 5000,), tuple(range(11)), FIGURES[::-1],
    (1, []), ([],), ({},), (1, {}), [1], [1, 2], [], {}, {1: 2}, {1}, "", "1", "12", 1, 0, -1, True, False, None,
    nested(tuple), nested(list), nested(dict),
]

TURNS = [
    (), ((6, 9),), ((0, 1),), ((0, 9),), ((8, 9),), ((0, 1), (2, 3)), ((0, 9), (1, 8)), ((0, 5), (1, 6), (2, 7)),
    ((0, 1), (2, 3), (4, 5), (6, 7), (8, 9)), ((0, 9), (1, 8), (2, 7), (3, 6), (4, 5)), ((0, 3), (1, 2)),
]


class GoodSets(unittest.TestCase):
    def test_keeps_cubes_and_turns(self):
        for turns in TURNS:
            for cubes in [((0,),), ((9,),), (FIGURES,), ((1,), (1,)), ((1, 2), (0,), (0, 9)), (FIGURES,) * 6]:
                group = Set(cubes, turns)
                self.assertEqual((group.cubes, group.turns, len(group)), (cubes, turns, len(cubes)))

    def test_each_ascending_tuple_of_unlike_figures_is_a_cube(self):
        for many in range(1, 11):
            for cube in itertools.combinations(range(10), many):
                self.assertEqual(Set((cube,)).cubes, (cube,))

    def test_from_one_to_six_cubes(self):
        for many in range(1, 7):
            self.assertEqual(len(Set(((3, 4),) * many)), many)

    def test_without_turns(self):
        self.assertEqual(Set(((1,),)).turns, ())
        self.assertEqual(Set(((1,),)), Set(((1,),), ()))

    def test_arguments_by_name(self):
        group = Set(cubes=((1,),), turns=((6, 9),))
        self.assertEqual((group.cubes, group.turns), (((1,),), ((6, 9),)))

    def test_properties_and_methods_stand_in_the_class_itself(self):
        self.assertIsInstance(vars(Set)["cubes"], property)
        self.assertIsInstance(vars(Set)["turns"], property)
        self.assertLessEqual({"__init__", "__len__", "__eq__"}, set(vars(Set)))


class EqualSets(unittest.TestCase):
    def test_equal_if_both_are(self):
        groups = [((1,),), ((2,),), ((1,), (1,)), ((1,), (2,)), ((2,), (1,)), ((1, 2),)]
        rows = list(itertools.product(groups, TURNS[:4]))
        for one in rows:
            for other in rows:
                self.assertIs(Set(*one) == Set(*other), one == other)
                self.assertIs(Set(*one) != Set(*other), one != other)

    def test_equal_to_nothing_of_another_kind(self):
        class Alike:
            cubes = ((1,),)
            turns = ()

        group = Set(((1,),))
        for other in ANY + [((1,),), (((1,),), ()), [(1,)], "cubes 1", Alike(), BadTurns(), Set]:
            self.assertIs(group == other, False)
            self.assertIs(other == group, False)
            self.assertIs(group != other, True)


class WrongCubes(unittest.TestCase):
    def test_no_tuple_of_one_to_six_things(self):
        for cubes in NO_CUBES_AT_ALL:
            self.assertEqual(told(Set, cubes), (BadCubes, {"index": None}))

    def test_the_first_thing_that_is_no_cube(self):
        for wrong in NO_CUBES:
            for ahead in range(6):
                for behind in range(6 - ahead):
                    cubes = ((0, 1),) * ahead + (wrong,) + ((2,),) * behind
                    self.assertEqual(told(Set, cubes), (BadCubes, {"index": ahead}))

    def test_the_first_of_several(self):
        for one, other in itertools.product(NO_CUBES, repeat=2):
            self.assertEqual(told(Set, (one, other)), (BadCubes, {"index": 0}))
        self.assertEqual(told(Set, ((1,), (2,), (), (1, 1))), (BadCubes, {"index": 2}))

    def test_the_number_of_cubes_is_judged_ahead_of_each_cube(self):
        self.assertEqual(told(Set, ((),) * 7), (BadCubes, {"index": None}))
        self.assertEqual(told(Set, ((),) * 6), (BadCubes, {"index": 0}))

    def test_any_value(self):
        for value in ANY:
            self.assertIs(told(Set, value)[0], BadCubes)

    def test_the_index_is_an_integer(self):
        self.assertIs(told(Set, ((1,), ()))[1]["index"].__class__, int)


class WrongTurns(unittest.TestCase):
    def test_no_turns(self):
        for turns in NO_TURNS:
            self.assertEqual(told(Set, ((1,),), turns), (BadTurns, {}), turns)

    def test_any_value(self):
        for value in ANY:
            if value != ():
                self.assertEqual(told(Set, ((1,),), value), (BadTurns, {}))

    def test_the_turns_of_any_two_pairs(self):
        pairs = list(itertools.product(range(-1, 11), repeat=2))
        good = [pair for pair in pairs if 0 <= pair[0] < pair[1] <= 9]
        for pair in pairs:
            raises = told(Set, ((1,),), (pair,)) == (BadTurns, {})
            self.assertIs(raises, pair not in good)
        for one, other in itertools.product(good, repeat=2):
            raises = told(Set, ((1,),), (one, other)) == (BadTurns, {})
            self.assertIs(raises, one >= other or len(set(one + other)) < 4)

    def test_wrong_cubes_are_named_first(self):
        for turns in NO_TURNS:
            self.assertEqual(told(Set, (), turns), (BadCubes, {"index": None}))
            self.assertEqual(told(Set, ((1,), (2, 1)), turns), (BadCubes, {"index": 1}))


class NothingChanges(unittest.TestCase):
    def test_arguments_stay_as_they_were(self):
        for value in NO_CUBES + NO_TURNS + ANY:
            before = copy.deepcopy(value)
            told(Set, value)
            told(Set, (value,))
            told(Set, ((1,),), value)
            self.assertEqual(value, before)

    def test_a_call_that_raises_changes_nothing(self):
        group = Set(((1,), (2, 6)), ((6, 9),))
        for cubes in NO_CUBES_AT_ALL:
            with self.assertRaises(BadCubes):
                Set(cubes, ((0, 1),))
        self.assertEqual(group, Set(((1,), (2, 6)), ((6, 9),)))

    def test_repeated_calls_give_equal_results(self):
        group = Set(((1,), (2, 6)), ((6, 9),))
        self.assertEqual((group.cubes, group.turns, len(group)), (group.cubes, group.turns, len(group)))
        self.assertEqual(told(Set, ((1,), 2)), told(Set, ((1,), 2)))


if __name__ == "__main__":
    unittest.main()
