import copy
import itertools
import random
import unittest

from daycubes.errors import BadNeeded
from daycubes.losses import fewest_lost, first_apart, first_beyond, most_spare
from daycubes.sets import Set
from helper import DAYS, FIGURES, GROUPS, plain_match, plain_shown, shown_signs, told

NEEDED = [
    ("1",), ("9",), ("0",), ("12",), ("12", "1"), ("1", "23", "3"), ("1", "6"), ("16", "19", "9"), ("11", "22"),
    ("1", "1", "1"), ("12", "12"), ("33", "12"), ("999999", "1"), ("999999",), ("012", "12", "2"), ("0123", "33", "4"),
    ("69", "96"), ("012345", "0"), ("3", "4", "5"), ("225555", "5"), ("7", "8", "77"),
    tuple(str(day).zfill(2) for day in range(1, 32)), tuple("0123456789"), ("1",) * 60,
]


def plain_first(groups, wanted):
    """The first number, by length and then ascending, for which two sets show it or not as is wanted."""
    for width in range(1, 7):
        # The least of all orders of the same signs is the ascending one, and a set shows all of them or none.
        rows = [set(shown_signs(group, width)) for group in groups]
        for row in sorted(rows[0] | rows[1]):
            if wanted(row in rows[0], row in rows[1]):
                return "".join(row)
    return None


def is_apart(one, other):
    return one is not other


def is_beyond(one, other):
    return other and not one


def without(cubes, lost):
    """These cubes without the lost ones."""
    return [cube for index, cube in enumerate(cubes) if index not in lost]


def plain_lost(group, needed, many):
    """The ascending lists of the tuples of so many cubes: (without which all shown ones are shown, the others)."""
    shown = plain_shown(group.cubes, group.turns, needed)
    spare, lost = [], []
    for row in itertools.combinations(range(len(group)), many):
        left = without(group.cubes, row)
        (spare if all(plain_match(left, group.turns, number) for number in shown) else lost).append(row)
    return spare, lost


def plain_fewest_lost(group, needed):
    for many in range(len(group) + 1):
        if plain_lost(group, needed, many)[1]:
            return (many, plain_lost(group, needed, many)[1])
    return None


def plain_most_spare(group, needed):
    for many in range(len(group), -1, -1):
        if plain_lost(group, needed, many)[0]:
            return (many, plain_lost(group, needed, many)[0])


class FirstNumbers(unittest.TestCase):
    def holds(self, one, other):
        for left, right in ((one, other), (other, one)):
            self.assertEqual(first_apart(left, right), plain_first((left, right), is_apart))
            self.assertEqual(first_beyond(left, right), plain_first((left, right), is_beyond))

    def test_against_all_numbers_that_are_short(self):
        numbers = ["".join(row) for many in (1, 2, 3) for row in itertools.product("0123456789", repeat=many)]
        for one, other in itertools.product(GROUPS[:10], repeat=2):
            shown = [[plain_match(group.cubes, group.turns, number) for number in numbers] for group in (one, other)]
            rows = list(zip(numbers, *shown))
            apart = [number for number, left, right in rows if left is not right]
            beyond = [number for number, left, right in rows if right and not left]
            # No set here has more than three cubes, so none shows a number that is longer.
            self.assertLessEqual(max(len(one), len(other)), 3)
            self.assertEqual(first_apart(one, other), apart[0] if apart else None)
            self.assertEqual(first_beyond(one, other), beyond[0] if beyond else None)

    def test_against_all_rows_of_signs(self):
        groups = GROUPS[10:] + [DAYS, Set((FIGURES,) * 3)]
        for one, other in itertools.combinations(groups, 2):
            self.holds(one, other)

    def test_sets_that_differ_in_one_face(self):
        chance = random.Random(17)
        for many in (2, 3, 4, 5, 6):
            for _ in range(6):
                cubes = [sorted(chance.sample(range(5), chance.randint(2, 4))) for _ in range(many)]
                others = copy.deepcopy(cubes)
                others[chance.randrange(many)].pop()
                turns = chance.choice([(), ((4, 7),)])
                self.holds(Set(tuple(map(tuple, cubes)), turns), Set(tuple(map(tuple, others)), turns))

    def test_only_long_numbers_differ(self):
        full = Set((FIGURES,) * 6)
        self.assertEqual(first_apart(full, Set((FIGURES,) * 5)), "000000")
        self.assertEqual(first_beyond(full, Set((FIGURES,) * 5)), None)
        self.assertEqual(first_beyond(Set((FIGURES,) * 5), full), "000000")
        less = Set((FIGURES,) * 5 + (FIGURES[:9],))
        self.assertEqual(first_apart(full, less), "999999")
        self.assertEqual(first_beyond(less, full), "999999")
        less = Set((FIGURES,) * 4 + (FIGURES[:9], FIGURES[:9]))
        self.assertEqual(first_apart(full, less), "99999")
        less = Set((FIGURES,) * 5 + ((0, 1, 2, 3, 4, 5, 6, 8, 9),))
        self.assertEqual((first_apart(full, less), first_apart(less, full)), ("777777", "777777"))
        self.holds(less, full)

    def test_sets_that_differ_in_the_number_of_cubes(self):
        self.assertEqual(first_apart(Set(((1,),)), Set(((1,), (1,)))), "11")
        self.assertEqual(first_apart(Set(((1, 2),)), Set(((1,), (2,)))), "12")
        self.assertEqual(first_apart(Set((FIGURES,) * 4), Set((FIGURES,) * 3)), "0000")

    def test_sets_that_differ_only_in_their_turns(self):
        cubes = ((1, 6), (2, 3))
        self.assertEqual(first_apart(Set(cubes, ((6, 9),)), Set(cubes)), "9")
        self.assertIsNone(first_apart(Set(cubes), Set(cubes, ((1, 6),))))
        self.assertEqual(first_apart(Set(cubes), Set(cubes, ((1, 2),))), "11")
        self.assertEqual(first_beyond(Set(cubes, ((1, 6),)), Set(cubes)), None)
        self.assertIsNone(first_apart(Set(cubes), Set(cubes, ((7, 8),))))
        self.holds(Set(cubes, ((6, 9),)), Set(cubes, ((1, 2),)))
        self.assertIsNone(first_apart(Set(((6,),), ((6, 9),)), Set(((9,),), ((6, 9),))))
        self.assertIsNone(first_apart(Set(((6,),), ((6, 9),)), Set(((6, 9),))))

    def test_equal_sets_and_sets_in_another_order(self):
        for group in GROUPS:
            for other in (Set(group.cubes, group.turns), Set(group.cubes[::-1], group.turns)):
                self.assertIsNone(first_apart(group, other))
                self.assertIsNone(first_beyond(group, other))

    def test_both_ways_round(self):
        one, other = Set(((1, 6), (2, 3)), ((6, 9),)), Set(((1,), (1, 2)))
        self.assertEqual((first_beyond(one, other), first_beyond(other, one)), ("11", "3"))
        self.assertEqual((first_apart(one, other), first_apart(other, one)), ("3", "3"))

    def test_the_shortest_comes_ahead_of_the_least(self):
        self.assertEqual(first_apart(Set(((0,), (0,))), Set(((9,),))), "0")
        self.assertEqual(first_beyond(Set(((0,),)), Set(((0, 9), (0,)))), "9")
        self.assertEqual(first_beyond(Set(((0, 9),)), Set(((0, 9), (0,)))), "00")

    def test_a_number_that_neither_shows_is_none(self):
        self.assertEqual(first_apart(Set(((3,),)), Set(((5,),))), "3")
        self.assertEqual(first_beyond(Set(((3,),)), Set(((5,),))), "5")

    def test_kinds(self):
        self.assertIs(first_apart(DAYS, Set(((1,),))).__class__, str)
        self.assertIs(first_beyond(Set(((1,),)), DAYS).__class__, str)


class LostCubes(unittest.TestCase):
    def test_against_all_sets_of_cubes(self):
        for group, needed in itertools.product(GROUPS, NEEDED):
            self.assertEqual(fewest_lost(group, needed), plain_fewest_lost(group, needed), needed)
            self.assertEqual(most_spare(group, needed), plain_most_spare(group, needed), needed)

    def test_no_needed_number_is_shown(self):
        for needed in (("0",), ("33", "66666"), ("123",)):
            self.assertIsNone(fewest_lost(Set(((1, 6), (2, 3))), needed))
            self.assertEqual(most_spare(Set(((1, 6), (2, 3))), needed), (2, [(0, 1)]))
        self.assertEqual(most_spare(Set((FIGURES,)), ("11",)), (1, [(0,)]))
        self.assertEqual(most_spare(Set(((1,),) * 6), ("2",)), (6, [(0, 1, 2, 3, 4, 5)]))

    def test_needed_numbers_that_are_not_shown_beside_others(self):
        group = Set(((1, 6), (2, 3), (2,)))
        self.assertEqual(fewest_lost(group, ("12",)), (1, [(0,)]))
        self.assertEqual(fewest_lost(group, ("12", "0", "66", "1234")), (1, [(0,)]))
        self.assertEqual(most_spare(group, ("12", "0", "66", "1234")), (1, [(1,), (2,)]))

    def test_the_same_number_twice(self):
        for group, needed in itertools.product(GROUPS, NEEDED[:20]):
            self.assertEqual(fewest_lost(group, needed * 2), fewest_lost(group, needed))
            self.assertEqual(most_spare(group, needed * 2), most_spare(group, needed))

    def test_no_cube_to_spare(self):
        self.assertEqual(most_spare(DAYS, tuple(str(day).zfill(2) for day in range(1, 32))), (0, [()]))
        self.assertEqual(most_spare(Set(((1,),)), ("1",)), (0, [()]))
        self.assertEqual(fewest_lost(Set(((1,),)), ("1",)), (1, [(0,)]))

    def test_several_cubes_must_be_lost(self):
        self.assertEqual(fewest_lost(Set(((1,),) * 4), ("11",)), (3, [(0, 1, 2), (0, 1, 3), (0, 2, 3), (1, 2, 3)]))
        self.assertEqual(most_spare(Set(((1,),) * 3), ("11",)), (1, [(0,), (1,), (2,)]))
        self.assertEqual(fewest_lost(Set((FIGURES,) * 6), ("1",)), (6, [(0, 1, 2, 3, 4, 5)]))
        self.assertEqual(fewest_lost(Set((FIGURES,) * 6), ("123456", "1"))[0], 1)

    def test_kinds(self):
        for found in (fewest_lost(DAYS, ("1", "2")), most_spare(DAYS, ("1", "2"))):
            self.assertEqual([part.__class__ for part in (found,) + found + (found[1][0],)], [tuple, int, list, tuple])


class WrongNeeded(unittest.TestCase):
    def test_the_index_of_what_is_none(self):
        for call in (fewest_lost, most_spare):
            for needed, index in (((), None), (["1"], None), ("1", None), (("1",) * 61, None), (None, None),
                                  (("",), 0), (("1", "2", True), 2), (("0", "1234567"), 1), (("1",) * 59 + (1,), 59)):
                self.assertEqual(told(call, DAYS, needed), (BadNeeded, {"index": index}))


class NothingChanges(unittest.TestCase):
    def test_repeated_calls_give_equal_and_new_results(self):
        for call, group, needed in itertools.product((fewest_lost, most_spare), GROUPS, NEEDED[:8]):
            before = (copy.deepcopy(group.cubes), copy.deepcopy(group.turns))
            found = call(group, needed)
            kept = copy.deepcopy(found)
            if found is not None:
                found[1].clear()
            self.assertEqual(call(group, needed), kept)
            self.assertEqual((group.cubes, group.turns), before)
        for one, other in itertools.product(GROUPS[:6], repeat=2):
            self.assertEqual(first_apart(one, other), first_apart(one, other))
            self.assertEqual(first_beyond(one, other), first_beyond(one, other))


if __name__ == "__main__":
    unittest.main()
