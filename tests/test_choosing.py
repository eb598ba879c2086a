import copy
import itertools
import sys
import unittest

from daycubes.choosing import count_sets, fewest_cubes, fewest_faces, first_unshown, list_sets
from daycubes.errors import BadNeeded, BadNumber, BadTurns, TooMany
from daycubes.sets import Set
from daycubes.showing import shows
from helper import ANY, NO_TURNS, nested, plain_shown, told

DAYS = Set(((0, 1, 2, 3, 4, 5), (0, 1, 2, 6, 7, 8)), ((6, 9),))

CALLS = [count_sets, list_sets, fewest_faces, fewest_cubes]

TURNS = [(), ((6, 9),), ((1, 2),), ((0, 1), (6, 9)), ((1, 6), (2, 9)), ((0, 9), (1, 6))]

NEEDED = [
    ("1",), ("9",), ("6",), ("11",), ("69",), ("99",), ("12", "1"), ("12", "21"), ("11", "22"), ("16", "19"),
    ("1", "2", "6"), ("12", "26", "16"), ("9", "19"), ("111",), ("112",), ("126",), ("699",), ("01", "10", "11"),
    ("0", "00", "000"), ("12", "12", "12"), ("1111",), ("2", "12", "012"), ("96", "6", "9"),
]

NO_CUBE_NUMBERS = [
    0, 7, -1, 10 ** 5000, -10 ** 5000, True, False, None, "2", "", (2,), (), [2], [], {2: 2}, {}, nested(tuple),
    nested(list),
]

NO_FACE_NUMBERS = [
    0, 11, -1, 10 ** 5000, -10 ** 5000, True, False, None, "2", "", (2,), (), [2], [], {2: 2}, {}, nested(tuple),
    nested(list),
]

TEN = tuple("0123456789")

JUST_100 = ("0", "1", "15", "16", "18", "2", "3", "4", "5", "6", "7", "8")

JUST_101 = ("0", "03", "05", "1", "12", "13", "2", "26", "3", "36", "4", "5", "56", "6")


# Arguments that many tuples of cubes have to be judged for, with the count of those that show all that is needed, and
# with a count of Python's calls that is far below one for each tuple of cubes and each number.
LONG_ONES = [
    ((("0", "1", "2", "3"), 3, 4, ()), 400, 20000),
    ((("012345", "6789"), 2, 10, ()), 0, 10000),
    ((TEN, 2, 10, ()), 29524, 50000),
]


def calls_within(call, *arguments):
    """How many calls of Python's a call makes, its own ones and those of builtin functions."""
    many = 0

    def count(_frame, event, _about):
        nonlocal many
        many += event in ("call", "c_call")

    sys.setprofile(count)
    try:
        told(call, *arguments)
    finally:
        sys.setprofile(None)
    return many


def plain_sets(needed, cubes, faces, turns):
    """The sets of cubes that show all that is needed, by going through all tuples of cubes."""
    figures = {int(sign) for number in needed for sign in number}
    figures = sorted({min([figure] + [a for a, b in turns if b == figure]) for figure in figures})
    kinds = [kind for many in range(1, faces + 1) for kind in itertools.combinations(figures, many)]
    return sorted(
        chosen for chosen in itertools.product(kinds, repeat=cubes)
        if list(chosen) == sorted(chosen) and len(plain_shown(chosen, turns, needed)) == len(needed)
    )


def plain_fewest_faces(found):
    """The fewest faces of these sets of cubes, and how many have so few."""
    sizes = [sum(len(cube) for cube in chosen) for chosen in found]
    return (min(sizes), sizes.count(min(sizes))) if found else None


class FirstUnshown(unittest.TestCase):
    def test_the_first_one(self):
        self.assertEqual(first_unshown(DAYS, ("31", "33", "99")), "33")
        self.assertEqual(first_unshown(DAYS, ("99", "31", "33")), "99")
        self.assertEqual(first_unshown(DAYS, ("33",)), "33")
        self.assertEqual(first_unshown(DAYS, ("1", "12", "012", "0123")), "012")
        self.assertEqual(first_unshown(Set(((1,), (2, 3))), ("31", "33")), "33")

    def test_all_shown(self):
        self.assertIsNone(first_unshown(DAYS, tuple(str(day).zfill(2) for day in range(1, 32))))
        self.assertIsNone(first_unshown(DAYS, ("9", "09", "90", "6", "1", "9")))
        self.assertIsNone(first_unshown(Set(((0,),)), ("0",)))

    def test_numbers_of_different_lengths(self):
        group = Set(((1,), (1, 2), (1, 2, 3)))
        self.assertEqual(first_unshown(group, ("1", "11", "111", "1111", "3", "4")), "1111")
        self.assertEqual(first_unshown(group, ("3", "32", "321", "123", "322", "000000")), "322")
        self.assertEqual(first_unshown(Set((tuple(range(10)),) * 6), ("123456", "1", "999999")), None)

    def test_the_same_number_twice(self):
        self.assertEqual(first_unshown(DAYS, ("12", "12", "33", "33")), "33")
        self.assertIsNone(first_unshown(DAYS, ("12", "12")))

    def test_one_and_sixty_numbers(self):
        self.assertEqual(first_unshown(DAYS, ("12",) * 59 + ("33",)), "33")
        self.assertIsNone(first_unshown(DAYS, ("12",) * 60))
        self.assertIsNone(first_unshown(DAYS, ("12",)))

    def test_against_shows(self):
        groups = [DAYS, Set(((1, 6), (0, 2)), ((6, 9),)), Set(((0, 1, 2),) * 3)]
        for group, needed in itertools.product(groups, NEEDED):
            unshown = [number for number in needed if not shows(group, number)]
            self.assertEqual(first_unshown(group, needed), unshown[0] if unshown else None)


class AgainstAllTuples(unittest.TestCase):
    def test_all_four(self):
        for needed, faces, turns in itertools.product(NEEDED, (1, 2, 3, 4, 10), TURNS):
            found = {cubes: plain_sets(needed, cubes, faces, turns) for cubes in (1, 2, 3)}
            for cubes in (1, 2, 3):
                asked = (needed, cubes, faces, turns)
                self.assertEqual(count_sets(*asked), len(found[cubes]), asked)
                self.assertEqual(told(list_sets, *asked),
                                 found[cubes] if len(found[cubes]) <= 100 else (TooMany, {}), asked)
                self.assertEqual(fewest_faces(*asked), plain_fewest_faces(found[cubes]), asked)
                least = [many for many in range(1, cubes + 1) if found[many]]
                self.assertEqual(fewest_cubes(*asked), least[0] if least else None, asked)

    def test_up_to_six_cubes(self):
        cases = [("1", "11", "2"), ("111", "2"), ("1122",), ("1111", "2222"), ("12112",), ("111222",), ("9", "6669")]
        for needed, faces in itertools.product(cases, (1, 2)):
            for cubes, turns in itertools.product((4, 5, 6), ((), ((6, 9),), ((1, 2),))):
                found = plain_sets(needed, cubes, faces, turns)
                self.assertEqual(list_sets(needed, cubes, faces, turns), found)
                self.assertEqual(count_sets(needed, cubes, faces, turns), len(found))
                self.assertEqual(fewest_faces(needed, cubes, faces, turns), plain_fewest_faces(found))

    def test_two_cubes_with_many_figures(self):
        for needed in (("012345", "1"), ("01", "23", "45", "0"), ("0", "11", "2", "33", "45")):
            for faces in (2, 3, 5):
                found = plain_sets(needed, 2, faces, ())
                self.assertEqual(count_sets(needed, 2, faces, ()), len(found))
                self.assertEqual(fewest_faces(needed, 2, faces, ()), plain_fewest_faces(found))


class Edges(unittest.TestCase):
    def test_of_turned_figures_the_less_one_alone_is_on_a_cube(self):
        self.assertEqual(list_sets(("9",), 1, 10, ((6, 9),)), [((6,),)])
        self.assertEqual(list_sets(("6",), 1, 10, ((6, 9),)), [((6,),)])
        self.assertEqual(list_sets(("9", "6"), 1, 10, ((6, 9),)), [((6,),)])
        self.assertEqual(list_sets(("69",), 2, 10, ((6, 9),)), [((6,), (6,))])
        self.assertEqual(list_sets(("9",), 1, 10, ()), [((9,),)])
        self.assertEqual(list_sets(("91",), 2, 1, ((0, 1), (6, 9))), [((0,), (6,))])

    def test_only_needed_figures_are_on_cubes(self):
        self.assertEqual(list_sets(("12",), 2, 10, ((3, 4),)),
                         [((1,), (1, 2)), ((1,), (2,)), ((1, 2), (1, 2)), ((1, 2), (2,))])
        self.assertEqual(list_sets(("1",), 3, 10, ()), [((1,), (1,), (1,))])

    def test_cubes_may_be_alike_and_none_is_without_a_face(self):
        self.assertEqual(list_sets(("1", "2"), 2, 2, ()), [
            ((1,), (1, 2)), ((1,), (2,)), ((1, 2), (1, 2)), ((1, 2), (2,)),
        ])
        self.assertEqual(count_sets(("1",), 6, 1, ()), 1)

    def test_fewer_faces_than_the_figures(self):
        self.assertEqual(list_sets(("1", "2"), 1, 1, ()), [])
        self.assertEqual(list_sets(("1", "2"), 1, 2, ()), [((1, 2),)])
        self.assertEqual(list_sets(("1", "2"), 2, 1, ()), [((1,), (2,))])
        self.assertEqual(count_sets(TEN, 1, 9, ()), 0)
        self.assertEqual(count_sets(TEN, 1, 10, ()), 1)
        self.assertEqual(count_sets(TEN, 2, 4, ()), 0)
        self.assertEqual(count_sets(TEN, 2, 5, ()), 126)

    def test_no_such_tuple(self):
        for asked in ((("11",), 1, 6, ()), (("123",), 2, 6, ()), (("123456",), 5, 1, ((1, 2), (3, 4), (5, 6))),
                      (("1", "2", "3"), 1, 2, ()), (("12", "34", "13", "24"), 1, 10, ((1, 3), (2, 4)))):
            self.assertEqual([call(*asked) for call in CALLS], [0, [], None, None], asked)

    def test_the_days_of_a_month(self):
        days = tuple(str(day).zfill(2) for day in range(1, 32))
        found = list_sets(days, 2, 6, ((6, 9),))
        self.assertEqual(len(found), 10)
        self.assertIn(((0, 1, 2, 3, 4, 5), (0, 1, 2, 6, 7, 8)), found)
        for cubes in found:
            self.assertIsNone(first_unshown(Set(cubes, ((6, 9),)), days))
        self.assertEqual(fewest_cubes(days, 2, 6, ((6, 9),)), 2)
        self.assertIsNone(fewest_cubes(days, 2, 6, ()))
        self.assertIsNone(fewest_cubes(days, 1, 10, ((6, 9),)))

    def test_fewest_faces_and_how_many(self):
        self.assertEqual(fewest_faces(("1",), 1, 10, ()), (1, 1))
        self.assertEqual(fewest_faces(("1", "2"), 2, 2, ()), (2, 1))
        self.assertEqual(fewest_faces(TEN, 2, 10, ()), (10, 511))
        self.assertEqual(fewest_faces(("12", "11"), 3, 2, ()), (3, 1))
        self.assertEqual(fewest_faces(("12",), 3, 2, ()), (3, 2))

    def test_fewest_cubes_by_the_faces(self):
        needed = ("1", "2", "3")
        self.assertEqual([fewest_cubes(needed, 3, faces, ()) for faces in (1, 2, 3, 4)], [3, 2, 1, 1])
        self.assertEqual([fewest_cubes(needed, 2, faces, ()) for faces in (1, 2, 3, 4)], [None, 2, 1, 1])
        self.assertEqual(fewest_cubes(("111111",), 6, 1, ()), 6)
        self.assertEqual(fewest_cubes(("111111",), 5, 1, ()), None)

    def test_kinds(self):
        asked = (("12", "1"), 2, 2, ())
        self.assertEqual([call(*asked).__class__ for call in CALLS], [int, list, tuple, int])
        self.assertEqual([part.__class__ for part in fewest_faces(*asked)], [int, int])
        for cubes in list_sets(*asked):
            Set(cubes)


class LongOnes(unittest.TestCase):
    def test_their_answers(self):
        self.assertEqual([count_sets(*asked) for asked, _, _ in LONG_ONES], [many for _, many, _ in LONG_ONES])
        self.assertEqual([told(list_sets, *asked) for asked, _, _ in LONG_ONES], [(TooMany, {}), [], (TooMany, {})])
        self.assertEqual([fewest_faces(*asked) for asked, _, _ in LONG_ONES], [(4, 6), None, (10, 511)])
        self.assertEqual([fewest_cubes(*asked) for asked, _, _ in LONG_ONES], [1, None, 1])
        self.assertEqual(fewest_faces(*LONG_ONES[0][0]), plain_fewest_faces(plain_sets(*LONG_ONES[0][0])))

    def test_they_are_not_gone_through_one_by_one(self):
        for call, (asked, _, most) in itertools.product(CALLS, LONG_ONES):
            self.assertLess(calls_within(call, *asked), most, asked)


class WrongArguments(unittest.TestCase):
    def test_a_number_of_cubes_that_is_none(self):
        for call, value in itertools.product(CALLS, NO_CUBE_NUMBERS):
            self.assertEqual(told(call, ("1",), value, 1, ()), (BadNumber, {}))

    def test_a_number_of_faces_that_is_none(self):
        for call, value in itertools.product(CALLS, NO_FACE_NUMBERS):
            self.assertEqual(told(call, ("1",), 1, value, ()), (BadNumber, {}))

    def test_each_number_that_is_one(self):
        for call in CALLS:
            for cubes, faces in itertools.product(range(1, 7), range(1, 11)):
                self.assertNotIn(told(call, ("1",), cubes, faces, ()), [(BadNumber, {}), (TooMany, {})])

    def test_any_number(self):
        for call, value in itertools.product(CALLS, ANY):
            if value.__class__ is not int or value not in (1, 9, 10):
                self.assertEqual(told(call, ("1",), value, 1, ()), (BadNumber, {}))
                self.assertEqual(told(call, ("1",), 1, value, ()), (BadNumber, {}))

    def test_wrong_turns(self):
        for call, turns in itertools.product(CALLS, NO_TURNS + [value for value in ANY if value != ()]):
            self.assertEqual(told(call, ("1",), 1, 1, turns), (BadTurns, {}))

    def test_too_many_to_go_through(self):
        most = {1: 10, 2: 10, 3: 5, 4: 4, 5: 3, 6: 2}
        for call, cubes, many in itertools.product(CALLS, most, range(1, 11)):
            raises = told(call, TEN[:many], cubes, 1, ()) == (TooMany, {})
            self.assertIs(raises, many > most[cubes], (cubes, many))

    def test_turned_figures_count_once(self):
        for call in CALLS:
            self.assertEqual(told(call, ("1", "6", "9"), 6, 1, ()), (TooMany, {}))
            self.assertNotEqual(told(call, ("1", "6", "9"), 6, 1, ((6, 9),)), (TooMany, {}))
            self.assertNotEqual(told(call, ("9", "6", "9"), 6, 1, ()), (TooMany, {}))
            self.assertEqual(told(call, ("1", "2", "9"), 6, 1, ((6, 9),)), (TooMany, {}))
        pairs = ((0, 1), (2, 3), (4, 5), (6, 7), (8, 9))
        self.assertEqual(told(count_sets, TEN, 4, 10, pairs), (TooMany, {}))
        self.assertEqual(count_sets(TEN, 3, 1, pairs), 0)
        self.assertEqual(fewest_cubes(TEN, 3, 5, pairs), 1)

    def test_too_many_for_most_though_fewer_would_do(self):
        self.assertEqual(told(fewest_cubes, ("1", "2", "3"), 6, 10, ()), (TooMany, {}))
        self.assertEqual(fewest_cubes(("1", "2", "3"), 5, 10, ()), 1)
        self.assertEqual(told(fewest_cubes, TEN, 3, 10, ()), (TooMany, {}))
        self.assertEqual(fewest_cubes(TEN, 2, 10, ()), 1)

    def test_too_many_to_list(self):
        self.assertEqual((count_sets(JUST_100, 2, 5, ()), count_sets(JUST_101, 2, 5, ())), (100, 101))
        found = list_sets(JUST_100, 2, 5, ())
        self.assertEqual((len(found), found), (100, plain_sets(JUST_100, 2, 5, ())))
        self.assertEqual(told(list_sets, JUST_101, 2, 5, ()), (TooMany, {}))
        self.assertEqual(told(list_sets, TEN, 2, 5, ()), (TooMany, {}))


class ErrorsInTheirOrder(unittest.TestCase):
    # Each argument, wrong, with the error that it makes; with ten figures and six cubes there are too many, too.
    WRONG = [("needed", ("1", ""), (BadNeeded, {"index": 1})), ("cubes", 7, (BadNumber, {})),
             ("faces", None, (BadNumber, {})), ("turns", ((9, 6),), (BadTurns, {})), (None, None, (TooMany, {}))]

    def test_each_pair(self):
        for call, (one, other) in itertools.product(CALLS, itertools.combinations(self.WRONG, 2)):
            asked = {"needed": TEN, "cubes": 6, "faces": 1, "turns": ()}
            for name, value, _ in (one, other):
                if name is not None:
                    asked[name] = value
            self.assertEqual(told(call, *asked.values()), one[2], (one, other))

    def test_each_wrong_argument_alone_and_all_together(self):
        for call in CALLS:
            self.assertEqual(told(call, TEN, 6, 1, ()), (TooMany, {}))
            self.assertEqual(told(call, TEN, 6, 1, ((9, 6),)), (BadTurns, {}))
            self.assertEqual(told(call, TEN, 6, 11, ((9, 6),)), (BadNumber, {}))
            self.assertEqual(told(call, TEN, 0, 1, ((9, 6),)), (BadNumber, {}))
            self.assertEqual(told(call, TEN * 7, 0, 0, None), (BadNeeded, {"index": None}))

    def test_wrong_values_of_every_kind_side_by_side(self):
        for call in CALLS:
            for cubes, turns in itertools.product(NO_CUBE_NUMBERS, NO_TURNS):
                self.assertEqual(told(call, TEN, cubes, 2, turns), (BadNumber, {}))
                self.assertEqual(told(call, ("",), cubes, 2, turns), (BadNeeded, {"index": 0}))
            for faces, turns in itertools.product(NO_FACE_NUMBERS, NO_TURNS):
                self.assertEqual(told(call, TEN, 6, faces, turns), (BadNumber, {}))
                self.assertEqual(told(call, [], 6, faces, turns), (BadNeeded, {"index": None}))


class NothingChanges(unittest.TestCase):
    def test_repeated_calls_give_equal_and_new_results(self):
        asked = (("12", "1"), 2, 2, ((6, 9),))
        found = list_sets(*asked)
        found.clear()
        self.assertEqual(list_sets(*asked), plain_sets(*asked))
        for call in CALLS:
            self.assertEqual(call(*asked), call(*asked))

    def test_arguments_stay_as_they_were(self):
        for call, value in itertools.product(CALLS, ANY):
            before = copy.deepcopy(value)
            for asked in ((value, 2, 2, ()), (("1",), value, 2, ()), (("1",), 2, value, ()), (("1",), 2, 2, value)):
                told(call, *asked)
            self.assertEqual(value, before)


if __name__ == "__main__":
    unittest.main()
