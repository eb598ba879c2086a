import copy
import itertools
import unittest

from daycubes.errors import BadFigures
from daycubes.papers import paper, right_paper
from daycubes.sets import Set
from daycubes.showing import how, lacking
from helper import ANY, DAYS, FIGURES, GROUPS, WRONG_NUMBERS, plain_has, plain_ways, told

NUMBERS = [
    "0", "1", "3", "6", "9", "01", "11", "12", "16", "29", "33", "69", "99", "012", "112", "121", "269", "333", "666",
    "0123", "1122", "4455", "0012", "6969", "01234", "22555", "69000", "012345", "225555", "012789", "777012", "111111",
]

TWO = Set(((1, 6), (2, 3)), ((6, 9),))


def plain_lacks(group, number):
    """All ascending tuples of places that have together fewer cubes than places."""
    found = []
    for many in range(len(number) + 1):
        for places in itertools.combinations(range(len(number)), many):
            cubes = [cube for cube in range(len(group))
                     if any(plain_has(group.cubes, group.turns, cube, number[place]) for place in places)]
            if len(cubes) < many:
                found.append(places)
    return found


def papers(group, number):
    """All papers for a number."""
    ways = plain_ways(group.cubes, group.turns, number)
    return [("way", way) for way in ways] + [("lacks", places) for places in plain_lacks(group, number)]


class Paper(unittest.TestCase):
    def test_against_how_and_lacking(self):
        for group, number in itertools.product(GROUPS, NUMBERS):
            way, lacks = how(group, number), lacking(group, number)
            self.assertEqual(paper(group, number), ("way", way) if lacks is None else ("lacks", lacks[0]))

    def test_against_all_papers(self):
        for group, number in itertools.product(GROUPS, NUMBERS):
            kind, inside = paper(group, number)
            others = [other for word, other in papers(group, number) if word == kind]
            self.assertEqual(inside, min(others, key=lambda other: (len(other), other)))

    def test_is_a_right_paper(self):
        for group, number in itertools.product(GROUPS, NUMBERS):
            self.assertIs(right_paper(group, number, paper(group, number)), True)

    def test_kinds(self):
        for number in ("29", "16"):
            found = paper(TWO, number)
            self.assertEqual([part.__class__ for part in (found,) + found + found[1]], [tuple, str, tuple, int, int])


class RightPaper(unittest.TestCase):
    def test_each_way_and_each_tuple_of_places_with_too_few_cubes(self):
        for group, number in itertools.product(GROUPS, NUMBERS):
            found = papers(group, number)
            self.assertGreater(len(found), 0)
            for value in found:
                self.assertIs(right_paper(group, number, value), True, (number, value))

    def test_each_other_tuple_of_small_integers(self):
        for group, number in itertools.product(GROUPS[:12], ("3", "16", "29", "11", "012", "112")):
            found = papers(group, number)
            for many in range(len(number) + 2):
                for row in itertools.product(range(-1, max(len(group), len(number)) + 1), repeat=many):
                    for word in ("way", "lacks"):
                        self.assertIs(right_paper(group, number, (word, row)), (word, row) in found, (number, row))

    def test_more_places_than_are_lacking(self):
        group = Set(((1,), (2,), (3,)))
        for places in ((0, 1), (0, 1, 2), (0, 2, 3), (1, 2, 3), (0, 1, 2, 3)):
            self.assertIs(right_paper(group, "1123", ("lacks", places)), places in plain_lacks(group, "1123"))
        self.assertEqual(plain_lacks(group, "1123"), [(0, 1), (0, 1, 2), (0, 1, 3), (0, 1, 2, 3)])

    def test_a_way_for_another_number(self):
        self.assertIs(right_paper(TWO, "12", ("way", (0, 1))), True)
        for number in ("21", "13", "1", "2", "122", "16", "33"):
            self.assertIs(right_paper(TWO, number, ("way", (0, 1))), number == "13")

    def test_places_for_another_number(self):
        self.assertIs(right_paper(TWO, "16", ("lacks", (0, 1))), True)
        for number in ("1", "12", "21", "29"):
            self.assertIs(right_paper(TWO, number, ("lacks", (0, 1))), False)

    def test_lists_in_place_of_tuples(self):
        for value in (["way", (1, 0)], ("way", [1, 0]), ["way", [1, 0]]):
            self.assertIs(right_paper(TWO, "29", value), False)
        for value in (["lacks", (0, 1)], ("lacks", [0, 1]), ["lacks", [0, 1]]):
            self.assertIs(right_paper(TWO, "16", value), False)

    def test_a_wrong_word(self):
        for word in ("lacks", "Way", "ways", "way ", " way", "wa", "", "WAY", None, True, 0, (), ("way",), ["way"], {}):
            self.assertIs(right_paper(TWO, "29", (word, (1, 0))), False)
        for word in ("way", "Lacks", "lack", "lacks ", "lacking", "", None, True, 0, (), ("lacks",), ["lacks"], {}):
            self.assertIs(right_paper(TWO, "16", (word, (0, 1))), False)

    def test_booleans_are_no_integers(self):
        for way in ((True, False), (1, False), (True, 0)):
            self.assertIs(right_paper(TWO, "29", ("way", way)), False)
        for places in ((False, True), (0, True), (False, 1)):
            self.assertIs(right_paper(TWO, "16", ("lacks", places)), False)
        self.assertIs(right_paper(TWO, "1", ("way", (False,))), False)
        self.assertIs(right_paper(TWO, "7", ("lacks", (False,))), False)
        for value in (True, False, ("way", True), ("way", False), ("lacks", True), (True, (1, 0)), (False, False)):
            for number in ("29", "16"):
                self.assertIs(right_paper(TWO, number, value), False)

    def test_places_that_are_not_ascending_or_twice(self):
        for places in ((1, 0), (0, 0), (1, 1), (0, 1, 1), (0, 0, 1)):
            self.assertIs(right_paper(TWO, "16", ("lacks", places)), False)
        self.assertIs(right_paper(TWO, "7", ("lacks", (0,))), True)
        self.assertIs(right_paper(TWO, "7", ("lacks", (0, 0))), False)

    def test_places_out_of_the_number(self):
        for places in ((0, 2), (-1, 0), (-2, -1), (0, 1, 2), (2, 3), (10 ** 5000,), (-10 ** 5000, 0)):
            self.assertIs(right_paper(TWO, "16", ("lacks", places)), False)

    def test_no_place_at_all(self):
        for group, number in itertools.product(GROUPS, NUMBERS):
            self.assertIs(right_paper(group, number, ("lacks", ())), False)
            self.assertIs(right_paper(group, number, ("way", ())), False)

    def test_a_cube_twice_or_out_of_the_set(self):
        group = Set((FIGURES, FIGURES))
        for way in ((0, 0), (1, 1), (0, 2), (-1, 0), (0, -1), (2, 3), (0,), (0, 1, 2), (0, 10 ** 5000)):
            self.assertIs(right_paper(group, "12", ("way", way)), False)

    def test_tuples_of_one_and_of_three(self):
        for value in ((), ("way",), ((1, 0),), ("way", (1, 0), ()), ("way", (1, 0), (1, 0)), ("way", 1, 0)):
            self.assertIs(right_paper(TWO, "29", value), False)
        for value in (("lacks",), ((0, 1),), ("lacks", (0, 1), ()), ("lacks", (0, 1), (0, 1)), ("lacks", 0, 1)):
            self.assertIs(right_paper(TWO, "16", value), False)

    def test_any_value(self):
        for value, number in itertools.product(ANY, ("29", "16", "1", "7")):
            for other in (value, ("way", value), ("lacks", value), (value, (1, 0)), (value, (0, 1)), (value, value),
                          ("way", (value, 0)), ("lacks", (0, value))):
                self.assertIs(right_paper(TWO, number, other), other in papers(TWO, number) and plain(other))

    def test_the_right_thing_within_another(self):
        for kind in (lambda it: (it,), lambda it: [it], lambda it: {0: it}, lambda it: (it, it), lambda it: {it: 1}):
            self.assertIs(right_paper(TWO, "29", kind(("way", (1, 0)))), False)
        self.assertIs(right_paper(TWO, "29", {"way": (1, 0)}), False)
        self.assertIs(right_paper(TWO, "29", "way"), False)


def plain(value):
    """Whether no boolean stands in a paper."""
    return all(cube is not True and cube is not False for cube in value[1])


class WrongNumbers(unittest.TestCase):
    def test_any_value_that_is_no_number(self):
        for number in WRONG_NUMBERS:
            self.assertEqual(told(paper, TWO, number), (BadFigures, {}))

    def test_any_value_that_is_no_number_whatever_the_paper(self):
        for number in WRONG_NUMBERS:
            for value in (("way", (0,)), ("lacks", (0,)), ("way", ()), ("lacks", ()), None, True, [], "", number):
                self.assertEqual(told(right_paper, TWO, number, value), (BadFigures, {}))
        for value in ANY:
            self.assertEqual(told(right_paper, TWO, "", value), (BadFigures, {}))


class NothingChanges(unittest.TestCase):
    def test_arguments_stay_as_they_were(self):
        for value in ANY + [["way", [1, 0]], ("lacks", [0, 1])]:
            before = copy.deepcopy(value)
            for other in (value, ("way", value), ("lacks", value)):
                right_paper(TWO, "29", other)
                right_paper(TWO, "16", other)
            told(paper, TWO, value)
            self.assertEqual(value, before)
        self.assertEqual(TWO, Set(((1, 6), (2, 3)), ((6, 9),)))

    def test_repeated_calls_give_equal_results(self):
        for group, number in itertools.product((DAYS, TWO), NUMBERS):
            self.assertEqual(paper(group, number), paper(group, number))


if __name__ == "__main__":
    unittest.main()
