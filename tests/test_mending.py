import copy
import itertools
import unittest

from daycubes.mending import best_face, gains, lean, needless
from daycubes.sets import Set
from daycubes.showing import shows
from helper import plain_has, plain_shown

FIGURES = tuple(range(10))

DAYS = Set(((0, 1, 2, 3, 4, 5), (0, 1, 2, 6, 7, 8)), ((6, 9),))

ALL_DAYS = tuple(str(day).zfill(2) for day in range(1, 32))

CALLS = [gains, best_face, needless, lean]

SETS = [
    DAYS,
    Set(((1,),)),
    Set((FIGURES,)),
    Set((FIGURES, (3,))),
    Set(((1,), (2,))),
    Set(((1,), (1,))),
    Set(((0, 1), (0, 1))),
    Set(((0, 1), (0, 1)), ((0, 1),)),
    Set(((6, 9), (9,)), ((6, 9),)),
    Set(((6,), (1, 2, 9)), ((1, 2), (6, 9))),
    Set(((0, 1, 2), (1, 2), (2,))),
    Set(((0, 1, 2, 3, 4), (0, 1, 2, 3, 4), (0, 1, 2, 3, 4)), ((2, 5), (3, 8), (6, 9))),
    Set(((1, 3, 5, 7, 9),), ((0, 1), (2, 3), (4, 5), (6, 7), (8, 9))),
    Set(((1,), (1, 2), (1, 2), (2, 3), (3,), (3,)), ((1, 9),)),
]

NEEDED = [
    ("1",), ("9",), ("12", "21", "11", "22", "13"), ("01", "10", "11"), ("69", "96", "66"), ("1", "2", "1", "2", "33"),
    ("123", "321", "12", "1"), ("012345", "4"), ("0", "1", "2", "3", "4", "5", "6", "7", "8", "9"), ("11", "11", "11"),
    ("112233", "332211", "19"), ALL_DAYS,
]


def without(cubes, index, figure):
    """These cubes without a face, the cube perhaps without any."""
    return tuple(
        tuple(face for face in cube if (at, face) != (index, figure)) for at, cube in enumerate(cubes)
    )


def plain_gains(group, needed):
    """What each face that may be added brings, by shows before and behind."""
    found = []
    for index, figure in itertools.product(range(len(group)), range(10)):
        greater = figure in [b for a, b in group.turns]
        if not greater and not plain_has(group.cubes, group.turns, index, str(figure)):
            cubes = list(group.cubes)
            cubes[index] = tuple(sorted(cubes[index] + (figure,)))
            behind = sum(shows(Set(tuple(cubes), group.turns), number) for number in needed)
            found.append((index, figure, behind - sum(shows(group, number) for number in needed)))
    return found


def plain_needless(cubes, turns, needed):
    """The faces that nobody needs, each alone, by a search for ways with it and without it."""
    shown = plain_shown(cubes, turns, needed)
    faces = [(index, figure) for index, cube in enumerate(cubes) for figure in cube]
    return [face for face in faces if plain_shown(without(cubes, *face), turns, needed) == shown]


def plain_lean(group, needed):
    """The cubes that are left of a set when needless faces are struck one behind the other."""
    cubes = group.cubes
    for index, figure in [(index, figure) for index, cube in enumerate(cubes) for figure in cube]:
        if (index, figure) in plain_needless(cubes, group.turns, needed) and len(cubes[index]) > 1:
            cubes = without(cubes, index, figure)
    return cubes


class Gains(unittest.TestCase):
    def test_against_shows_before_and_behind(self):
        for group, needed in itertools.product(SETS, NEEDED):
            found = gains(group, needed)
            self.assertEqual(found, plain_gains(group, needed))
            self.assertEqual(found, sorted(found))

    def test_by_hand(self):
        self.assertEqual(gains(Set((FIGURES[:8],)), ("8", "9", "98", "8")), [(0, 8, 2), (0, 9, 1)])
        self.assertEqual(gains(Set((FIGURES[1:], FIGURES[:9])), ("00", "99", "09")), [(0, 0, 1), (1, 9, 1)])
        self.assertEqual(gains(Set((FIGURES[1:],)), ("1",)), [(0, 0, 0)])

    def test_cubes_that_have_all_figures(self):
        self.assertEqual(gains(Set((FIGURES, FIGURES)), ("123",)), [])
        self.assertEqual([row[0] for row in gains(Set((FIGURES, (3,), FIGURES)), ("33",))], [1] * 9)
        group = Set(((1, 3, 5, 7, 9), (0, 2, 4, 6, 8)), ((0, 1), (2, 3), (4, 5), (6, 7), (8, 9)))
        self.assertEqual(gains(group, ("1", "111")), [])

    def test_of_turned_figures_the_less_one_alone(self):
        self.assertEqual([row[1] for row in gains(Set(((0,),), ((6, 9),)), ("1",))], [1, 2, 3, 4, 5, 6, 7, 8])
        self.assertIn((0, 6, 1), gains(Set(((0,),), ((6, 9),)), ("9",)))
        self.assertEqual([row[1] for row in gains(Set(((8,),), ((0, 9), (1, 2)),), ("1",))], [0, 1, 3, 4, 5, 6, 7])

    def test_a_figure_by_a_turn_only_is_one_that_a_cube_has(self):
        for face in (6, 9):
            figures = [row[1] for row in gains(Set(((face,),), ((6, 9),)), ("6",))]
            self.assertEqual(figures, [0, 1, 2, 3, 4, 5, 7, 8])
        self.assertEqual([row[1] for row in gains(Set(((6,),)), ("6",))], [0, 1, 2, 3, 4, 5, 7, 8, 9])

    def test_the_same_number_twice_counts_twice(self):
        self.assertEqual(gains(Set((FIGURES[1:],)), ("0", "0", "0")), [(0, 0, 3)])

    def test_kinds(self):
        found = gains(DAYS, ALL_DAYS)
        self.assertEqual((found.__class__, {row.__class__ for row in found}), (list, {tuple}))
        self.assertEqual({part.__class__ for row in found for part in row}, {int})


class BestFace(unittest.TestCase):
    def test_the_first_one_of_the_greatest(self):
        for group, needed in itertools.product(SETS, NEEDED):
            found = plain_gains(group, needed)
            most = max([row[2] for row in found], default=None)
            first = [row for row in found if row[2] == most][0] if found else None
            self.assertEqual(best_face(group, needed), first)

    def test_the_first_one_though_nothing_is_gained(self):
        self.assertEqual(best_face(Set(((1,), (2,))), ("1",)), (0, 0, 0))
        self.assertEqual(best_face(Set(((0, 1), (2,))), ("345",)), (0, 2, 0))

    def test_a_later_one_that_is_greater(self):
        self.assertEqual(best_face(Set(((1,), (2,))), ("22", "33", "11", "14", "41")), (1, 4, 2))
        self.assertEqual(best_face(Set(((1,), (2,))), ("23", "13", "32")), (0, 3, 2))

    def test_no_face_to_add(self):
        self.assertIsNone(best_face(Set((FIGURES,)), ("11",)))
        self.assertIsNone(best_face(Set((FIGURES[:5],), ((0, 5), (1, 6), (2, 7), (3, 8), (4, 9))), ("9",)))


class Needless(unittest.TestCase):
    def test_against_a_search_face_by_face(self):
        for group, needed in itertools.product(SETS, NEEDED):
            found = needless(group, needed)
            self.assertEqual(found, plain_needless(group.cubes, group.turns, needed))
            self.assertEqual(found, sorted(found))

    def test_cubes_with_one_face(self):
        self.assertEqual(needless(Set(((1,),)), ("1",)), [])
        self.assertEqual(needless(Set(((1,),)), ("2",)), [(0, 1)])
        self.assertEqual(needless(Set(((1,), (1,))), ("1",)), [(0, 1), (1, 1)])
        self.assertEqual(needless(Set(((1,), (1,))), ("1", "11")), [])
        self.assertEqual(needless(Set(((1,), (2,), (1, 2))), ("12",)), [(0, 1), (1, 2), (2, 1), (2, 2)])

    def test_each_face_alone(self):
        self.assertEqual(needless(Set(((1, 2), (1, 2))), ("1", "2")), [(0, 1), (0, 2), (1, 1), (1, 2)])
        self.assertEqual(needless(Set(((6, 9),), ((6, 9),)), ("6", "9")), [(0, 6), (0, 9)])
        self.assertEqual(needless(Set(((6, 9),)), ("6", "9")), [])

    def test_numbers_that_are_not_shown(self):
        self.assertEqual(needless(Set(((1, 2), (3,))), ("44", "12")), [(0, 1), (0, 2), (1, 3)])
        self.assertEqual(needless(Set(((1, 2), (3,))), ("44", "12", "2")), [(0, 1), (1, 3)])

    def test_kinds(self):
        found = needless(DAYS, ("01",))
        self.assertEqual((found.__class__, {row.__class__ for row in found}), (list, {tuple}))


class Lean(unittest.TestCase):
    def test_against_striking_as_it_goes(self):
        for group, needed in itertools.product(SETS, NEEDED):
            left = lean(group, needed)
            self.assertEqual(left, Set(plain_lean(group, needed), group.turns))
            self.assertEqual(plain_shown(left.cubes, left.turns, needed),
                             plain_shown(group.cubes, group.turns, needed))

    def test_in_ascending_order(self):
        self.assertEqual(lean(Set(((1, 2), (1, 2))), ("1", "2")).cubes, ((2,), (1,)))
        self.assertEqual(lean(Set(((1, 2, 3), (1, 2, 3))), ("1", "2", "3")).cubes, ((3,), (1, 2)))
        self.assertEqual(lean(Set(((6, 9),), ((6, 9),)), ("6", "9")).cubes, ((9,),))
        self.assertEqual(lean(Set(((0, 1), (0, 1))), ("01", "10")).cubes, ((1,), (0,)))

    def test_never_the_last_face_of_a_cube(self):
        self.assertEqual(lean(Set(((1,), (1,))), ("1",)).cubes, ((1,), (1,)))
        self.assertEqual(lean(Set(((1, 2, 3), (4, 5))), ("6",)).cubes, ((3,), (5,)))
        self.assertEqual(lean(Set(((1, 2, 3), (4, 5))), ("1",)).cubes, ((1,), (5,)))
        self.assertEqual(lean(Set((FIGURES,) * 6), ("1234567"[:6],)).cubes, ((6,), (5,), (4,), (3,), (2,), (1,)))

    def test_the_last_face_stays_though_a_later_one_could_have_gone(self):
        self.assertEqual(lean(Set(((1, 2), (2,), (1,))), ("1", "2")).cubes, ((2,), (2,), (1,)))

    def test_its_turns_are_those_of_the_set(self):
        for turns in ((), ((6, 9),), ((0, 1), (2, 3))):
            self.assertEqual(lean(Set(((6,), (4, 7)), turns), ("67",)), Set(((6,), (7,)), turns))

    def test_numbers_that_are_not_shown(self):
        self.assertEqual(lean(DAYS, ("33", "99")).cubes, ((5,), (8,)))
        self.assertEqual(lean(DAYS, ("33", "99", "9")).cubes, ((5,), (6,)))

    def test_nothing_to_strike(self):
        self.assertEqual(lean(DAYS, ALL_DAYS), DAYS)
        self.assertEqual(needless(DAYS, ALL_DAYS), [])

    def test_is_a_set(self):
        self.assertIs(lean(DAYS, ("1",)).__class__, Set)


class NothingChanges(unittest.TestCase):
    def test_repeated_calls_give_equal_results(self):
        for call, group, needed in itertools.product(CALLS, SETS[:10], NEEDED[:6]):
            before = (copy.deepcopy(group.cubes), copy.deepcopy(group.turns))
            self.assertEqual(call(group, needed), call(group, needed))
            self.assertEqual((group.cubes, group.turns), before)

    def test_what_is_returned_is_new(self):
        for call in (gains, needless):
            group = Set(((0, 1), (0, 1)))
            found = call(group, ("01", "10"))
            kept = list(found)
            found.clear()
            self.assertEqual(call(group, ("01", "10")), kept)
        left = lean(DAYS, ALL_DAYS)
        self.assertIsNot(left, DAYS)


if __name__ == "__main__":
    unittest.main()
