import copy
import itertools
import unittest

from daycubes.choosing import count_sets, fewest_cubes, fewest_faces, first_unshown, list_sets
from daycubes.errors import BadNeeded
from daycubes.losses import fewest_lost, most_spare
from daycubes.mending import best_face, gains, lean, needless
from daycubes.plans import cheapest, plan_paper
from daycubes.sets import Set
from helper import ANY, NO_NUMBERS, WRONG_NUMBERS, told

GROUP = Set(((0, 1, 6), (1, 2)), ((6, 9),))

BY_GROUP = [first_unshown, gains, best_face, needless, lean, fewest_lost, most_spare, cheapest, plan_paper]

BY_CUBES = [count_sets, list_sets, fewest_faces, fewest_cubes]

NO_NEEDED_AT_ALL = [
    (), ("1",) * 61, ("",) * 61, (None,) * 61, ("1",) * 1000, ["1"], [], ["1", "2"], "1", "12", "", None, True, False,
    0, 1, 60, -1, {}, {"1": True}, {0: "1"}, 10 ** 5000,
]


def calls():
    """Each function that is passed needed numbers, as a function of these alone."""
    for call in BY_GROUP:
        yield lambda needed, call=call: call(GROUP, needed)
    for call in BY_CUBES:
        yield lambda needed, call=call: call(needed, 2, 3, ((6, 9),))


class GoodNeeded(unittest.TestCase):
    def test_from_one_to_sixty_numbers_of_any_lengths(self):
        for call in calls():
            for needed in (("1",), ("1",) * 60, ("1", "01", "001", "0001", "00001", "000001"), ("9", "96", "9")):
                call(needed)

    def test_the_order_and_repeated_numbers_do_not_make_an_error(self):
        for call in calls():
            for needed in itertools.permutations(("2", "10", "10")):
                call(needed)


class WrongNeeded(unittest.TestCase):
    def test_no_tuple_of_one_to_sixty_things(self):
        for call, value in itertools.product(calls(), NO_NEEDED_AT_ALL):
            self.assertEqual(told(call, value), (BadNeeded, {"index": None}))

    def test_any_value(self):
        for call, value in itertools.product(calls(), ANY):
            index = 0 if isinstance(value, tuple) and len(value) > 0 else None
            self.assertEqual(told(call, value), (BadNeeded, {"index": index}))

    def test_the_first_thing_that_is_no_number(self):
        for call, wrong, ahead in itertools.product(calls(), NO_NUMBERS, (0, 1, 2, 58, 59)):
            needed = ("1",) * ahead + (wrong,) + ("2",) * (min(3, 59 - ahead))
            self.assertEqual(told(call, needed), (BadNeeded, {"index": ahead}))

    def test_each_value_that_is_no_number(self):
        for call, wrong in itertools.product(calls(), WRONG_NUMBERS):
            self.assertEqual(told(call, ("12", wrong)), (BadNeeded, {"index": 1}))

    def test_the_first_of_several(self):
        for call in calls():
            self.assertEqual(told(call, ("1", "", None, "1234567")), (BadNeeded, {"index": 1}))
            self.assertEqual(told(call, (True, "")), (BadNeeded, {"index": 0}))
            self.assertEqual(told(call, ("1",) * 59 + ("",)), (BadNeeded, {"index": 59}))

    def test_how_many_there_are_is_judged_ahead_of_each_number(self):
        for call in calls():
            self.assertEqual(told(call, ("",) * 61), (BadNeeded, {"index": None}))
            self.assertEqual(told(call, ("",) * 60), (BadNeeded, {"index": 0}))

    def test_the_index_is_an_integer(self):
        for call in calls():
            self.assertIs(told(call, ("1", ""))[1]["index"].__class__, int)

    def test_a_number_that_is_not_shown_ahead_of_what_is_none(self):
        self.assertEqual(told(first_unshown, GROUP, ("5", "")), (BadNeeded, {"index": 1}))


class NothingChanges(unittest.TestCase):
    def test_arguments_stay_as_they_were(self):
        for call, value in itertools.product(calls(), NO_NEEDED_AT_ALL + NO_NUMBERS + ANY):
            for needed in (value, ("1", value)):
                before = copy.deepcopy(needed)
                told(call, needed)
                self.assertEqual(needed, before)
        self.assertEqual(GROUP, Set(((0, 1, 6), (1, 2)), ((6, 9),)))

    def test_repeated_calls_give_equal_results(self):
        for call, needed in itertools.product(calls(), (("1", "12", "69"), ("0", ""), ("21", "16"))):
            self.assertEqual(told(call, needed), told(call, needed))


if __name__ == "__main__":
    unittest.main()
