import copy
import itertools
import unittest

from daycubes.errors import BadFigures, BadNumber, BadSeen, BadTurns
from daycubes.told import fitting
from helper import ANY, NO_NUMBERS, NO_TURNS, WRONG_NUMBERS, nested, plain_ways, told

FIGURES = [(1,), (9,), (1, 2), (6, 9), (0, 1, 2), (1, 6, 9), (0, 1, 2, 3), (1, 2, 6, 9)]

TURNS = [(), ((6, 9),), ((1, 2),), ((7, 8),), ((0, 5), (1, 2), (6, 9)), ((1, 9), (2, 6)), ((2, 3), (4, 7))]

SEEN = [
    [], (),
    [("1", True)], [("1", False)], (("9", True),), [("6", False)], [("5", True)], [("5", False)], [("11", True)],
    [("12", True)], (("12", False),), [("69", True)], [("99", False)], [("123", True)], [("123", False)],
    [("111111", False)], [("1", True), ("2", False)], [("1", True), ("1", True)], [("1", True), ("1", False)],
    [("12", True), ("21", False)], [("11", True), ("22", False)], (("1", True), ("9", True), ("19", False)),
    [("12", True), ("11", False), ("22", False)], [("6", True), ("96", True), ("1", False), ("019", False)],
    [("012", True), ("1", True)],
]

NO_TOLD_CUBES = [
    0, 3, 4, 6, -1, 10 ** 5000, -10 ** 5000, True, False, None, "1", "", "2", (1,), (), [1], [], {1: 1}, {},
    nested(tuple), nested(list),
]

NO_TOLD_FIGURES = [
    (), (0, 1, 2, 3, 4), tuple(range(10)), (2, 1), (0, 2, 1), (9, 0), (1, 1), (0, 1, 1), (3, 3, 3, 3), (10,), (1, 10),
    (-1,), (-1, 1), (True,), (False,), (False, True), (0, True), (True, 2), (None,), ("1",), ("1", "2"), (1, "2"),
    ((1,),), (1, (2,)), ([1],), (1, {}), (10 ** 5000,), [1], [1, 2], [], {}, {1: 2}, "", "1", "12", 1, 0, None, True,
    False, nested(tuple), nested(list),
]

NOT_SEEN_AT_ALL = ["", "1", "12", {}, {"1": True}, {("1", True): 1}, None, 0, 1, -1, True, False, 10 ** 5000,
                   nested(dict)]

NO_THINGS_SEEN = [
    ["1", True], [], (), ("1",), (True,), ("1", True, True), ("1", True, 2), ("1", 1), ("1", 0), ("1", None),
    ("1", "True"), ("1", ""), ("1", ()), ("1", (True,)), ("1", [True]), ("", True), (True, "1"), (True, True),
    (1, True), (None, True), (("1",), True), (["1"], True), ({}, False), ("1234567", True), ("1a", False),
    ("\u0661", True), ("-1", True), (("1", True),), [("1", True)], "1", "", "1T", 1, 0, None, True, False, {},
    {"1": True}, nested(tuple), nested(list), nested(dict),
]


def all_tuples(cubes, figures):
    """All tuples of so many cubes with some of these figures on them."""
    kinds = [kind for many in range(1, len(figures) + 1) for kind in itertools.combinations(figures, many)]
    return list(itertools.product(kinds, repeat=cubes))


def plain_fitting(cubes, figures, turns, seen):
    """What can be told back, by going through all tuples of cubes."""
    found = [
        made for made in all_tuples(cubes, figures)
        if all(bool(plain_ways(made, turns, number)) is shown for number, shown in seen)
    ]
    faces = [{(index, face) for index, cube in enumerate(made) for face in cube} for made in found]
    everywhere = set.intersection(*faces) if faces else set()
    return (len(found), sorted(everywhere), sorted(set().union(*faces)))


class AgainstAllTuples(unittest.TestCase):
    def test_one_cube(self):
        for asked in itertools.product((1,), FIGURES, TURNS, SEEN):
            self.assertEqual(fitting(*asked), plain_fitting(*asked), asked)

    def test_two_cubes(self):
        for asked in itertools.product((2,), FIGURES, TURNS, SEEN):
            self.assertEqual(fitting(*asked), plain_fitting(*asked), asked)

    def test_each_number_shown_or_not(self):
        numbers = ["".join(signs) for many in (1, 2, 3) for signs in itertools.product("169", repeat=many)]
        for cubes, number, shown in itertools.product((1, 2), numbers, (True, False)):
            asked = (cubes, (1, 6, 9), ((6, 9),), [(number, shown)])
            self.assertEqual(fitting(*asked), plain_fitting(*asked))


class Edges(unittest.TestCase):
    def test_nothing_seen(self):
        for seen in ([], ()):
            self.assertEqual(fitting(1, (3,), (), seen), (1, [(0, 3)], [(0, 3)]))
            self.assertEqual(fitting(1, (1, 2), (), seen), (3, [], [(0, 1), (0, 2)]))
            self.assertEqual(fitting(2, (1, 2), (), seen), (9, [], [(0, 1), (0, 2), (1, 1), (1, 2)]))
            self.assertEqual(fitting(2, (0, 1, 2, 3), (), seen)[0], 225)

    def test_no_tuple_at_all(self):
        for cubes, seen in itertools.product((1, 2), ([("4", True)], [("123", True)], [("3", False)],
                                                      [("3", True), ("3", False)])):
            self.assertEqual(fitting(cubes, (3,), (), seen), (0, [], []))

    def test_more_signs_than_cubes(self):
        self.assertEqual(fitting(1, (1,), (), [("11", True)]), (0, [], []))
        self.assertEqual(fitting(1, (1,), (), [("11", False)]), (1, [(0, 1)], [(0, 1)]))
        self.assertEqual(fitting(2, (1,), (), [("111", True)]), (0, [], []))
        self.assertEqual(fitting(2, (1,), (), [("111", False), ("11", True)])[0], 1)

    def test_the_order_of_the_cubes_counts(self):
        self.assertEqual(fitting(2, (1, 2), (), [("12", True), ("11", False), ("22", False)]),
                         (2, [], [(0, 1), (0, 2), (1, 1), (1, 2)]))
        self.assertEqual(fitting(2, (1, 2), (), [("2", False)]), (1, [(0, 1), (1, 1)], [(0, 1), (1, 1)]))

    def test_told_figures_alone_are_on_cubes_though_others_stand_for_them(self):
        self.assertEqual(fitting(1, (6,), ((6, 9),), [("9", True)]), (1, [(0, 6)], [(0, 6)]))
        self.assertEqual(fitting(1, (6, 9), ((6, 9),), [("9", True)]), (3, [], [(0, 6), (0, 9)]))
        self.assertEqual(fitting(1, (6, 9), (), [("9", True)]), (2, [(0, 9)], [(0, 6), (0, 9)]))
        self.assertEqual(fitting(1, (6, 9), ((6, 9),), [("6", False)]), (0, [], []))

    def test_lists_and_tuples_of_the_same_are_alike(self):
        for seen in SEEN:
            self.assertEqual(fitting(2, (1, 2, 6), (), list(seen)), fitting(2, (1, 2, 6), (), tuple(seen)))

    def test_many_things_seen(self):
        seen = [("12", True), ("3", False)] * 500
        self.assertEqual(fitting(2, (1, 2, 3), (), seen), plain_fitting(2, (1, 2, 3), (), seen[:2]))

    def test_kinds(self):
        for seen in ([("12", True)], [("4", True)]):
            found = fitting(2, (1, 2), (), seen)
            self.assertEqual([part.__class__ for part in (found,) + found], [tuple, int, list, list])
            self.assertLessEqual({face.__class__ for face in found[1] + found[2]}, {tuple})


class WrongArguments(unittest.TestCase):
    def test_a_number_of_cubes_that_is_none(self):
        for value in NO_TOLD_CUBES + [value for value in ANY if value is True or value != 1]:
            self.assertEqual(told(fitting, value, (1,), (), []), (BadNumber, {}))

    def test_figures_that_are_none(self):
        for value in NO_TOLD_FIGURES + ANY:
            self.assertEqual(told(fitting, 1, value, (), []), (BadFigures, {}))

    def test_wrong_turns(self):
        for value in NO_TURNS + [value for value in ANY if value != ()]:
            self.assertEqual(told(fitting, 1, (1,), value, []), (BadTurns, {}))

    def test_seen_that_is_no_list_or_tuple(self):
        for value in NOT_SEEN_AT_ALL + [value for value in ANY if not isinstance(value, (list, tuple))]:
            self.assertEqual(told(fitting, 1, (1,), (), value), (BadSeen, {"index": None}))

    def test_any_value_that_was_seen(self):
        for value in ANY:
            if isinstance(value, (list, tuple)) and len(value) > 0:
                self.assertEqual(told(fitting, 1, (1,), (), value), (BadSeen, {"index": 0}))

    def test_the_first_thing_that_is_no_such_tuple(self):
        for wrong, ahead, kind in itertools.product(NO_THINGS_SEEN, (0, 1, 2, 70), (list, tuple)):
            seen = kind([("1", True)] * ahead + [wrong] + [("2", False)] * 2)
            self.assertEqual(told(fitting, 2, (1,), (), seen), (BadSeen, {"index": ahead}))

    def test_the_first_of_several(self):
        for one, other in itertools.product(NO_THINGS_SEEN, repeat=2):
            self.assertEqual(told(fitting, 1, (1,), (), [("1", True), one, other]), (BadSeen, {"index": 1}))

    def test_each_value_in_place_of_a_number(self):
        for wrong in WRONG_NUMBERS:
            self.assertEqual(told(fitting, 1, (1,), (), [("1", True), (wrong, True)]), (BadSeen, {"index": 1}))

    def test_each_value_in_place_of_true_or_false(self):
        for wrong in ANY:
            if wrong is not True and wrong is not False:
                self.assertEqual(told(fitting, 1, (1,), (), [("1", wrong)]), (BadSeen, {"index": 0}))

    def test_a_thing_behind_what_no_tuple_agrees_with(self):
        self.assertEqual(told(fitting, 1, (1,), (), [("5", True), ("5", 1)]), (BadSeen, {"index": 1}))

    def test_from_one_to_four_figures(self):
        for many in range(1, 10):
            result = told(fitting, 1, tuple(range(many)), (), [])
            self.assertEqual(result[0], 2 ** many - 1 if many <= 4 else BadFigures)


class ErrorsInTheirOrder(unittest.TestCase):
    WRONG = [("cubes", 3, (BadNumber, {})), ("figures", (2, 1), (BadFigures, {})), ("turns", ((9, 6),), (BadTurns, {})),
             ("seen", None, (BadSeen, {"index": None}))]

    def test_each_pair(self):
        for one, other in itertools.combinations(self.WRONG, 2):
            asked = {"cubes": 1, "figures": (1,), "turns": (), "seen": []}
            for name, value, _ in (one, other):
                asked[name] = value
            self.assertEqual(told(fitting, *asked.values()), one[2])

    def test_each_pair_of_wrong_values(self):
        for cubes, figures in itertools.product(NO_TOLD_CUBES, NO_TOLD_FIGURES):
            self.assertEqual(told(fitting, cubes, figures, (), []), (BadNumber, {}))
        for cubes, turns in itertools.product(NO_TOLD_CUBES, NO_TURNS):
            self.assertEqual(told(fitting, cubes, (1,), turns, []), (BadNumber, {}))
        for figures, turns in itertools.product(NO_TOLD_FIGURES, NO_TURNS):
            self.assertEqual(told(fitting, 1, figures, turns, []), (BadFigures, {}))
        for seen in NOT_SEEN_AT_ALL + [[wrong] for wrong in NO_THINGS_SEEN]:
            for cubes in NO_TOLD_CUBES:
                self.assertEqual(told(fitting, cubes, (1,), (), seen), (BadNumber, {}))
            for figures in NO_TOLD_FIGURES:
                self.assertEqual(told(fitting, 1, figures, (), seen), (BadFigures, {}))
            for turns in NO_TURNS:
                self.assertEqual(told(fitting, 1, (1,), turns, seen), (BadTurns, {}))


class NothingChanges(unittest.TestCase):
    def test_arguments_stay_as_they_were(self):
        for value in ANY + NO_THINGS_SEEN + SEEN:
            before = copy.deepcopy(value)
            for asked in ((value, (1,), (), []), (1, value, (), []), (1, (1,), value, []), (1, (1,), (), value),
                          (1, (1,), (), [value])):
                told(fitting, *asked)
            self.assertEqual(value, before)

    def test_repeated_calls_give_equal_and_new_results(self):
        seen = [("12", True)]
        found = fitting(2, (1, 2), (), seen)
        found[1].append((5, 5))
        found[2].clear()
        self.assertEqual(fitting(2, (1, 2), (), seen), plain_fitting(2, (1, 2), (), seen))
        found = fitting(1, (1,), (), [])
        found[1].clear()
        self.assertEqual(found[2], [(0, 1)])

    def test_a_list_that_is_changed_behind_the_call_changes_nothing(self):
        seen = [("12", True)]
        found = fitting(2, (1, 2), (), seen)
        kept = copy.deepcopy(found)
        seen.append(("1", False))
        self.assertEqual(found, kept)


if __name__ == "__main__":
    unittest.main()
