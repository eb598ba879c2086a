"""What the document promises of all functions alike: the order of errors, new results, arguments left as they were."""

import copy
import itertools
import unittest

from daycubes import choosing, counting, errors, great, losses, mending, papers, plans, showing, texts
from daycubes.holders import Holder
from daycubes.sets import Set
from daycubes.told import fitting
from helper import DAYS, FIGURES, told
from test_package import INTERFACE

SIX = Set((FIGURES,) * 6)

TWO = Set(((1, 6), (2, 3)), ((6, 9),))

TEN = tuple("0123456789")

NEEDED = ("12", "1", "29")


def show(group, number):
    """What a new holder returns for a number."""
    return Holder(group).show(number)


def bad_needed(name="needed"):
    return ({name: ("12", "")}, errors.BadNeeded(1))


NUMBER = [({"number": "1a"}, errors.BadFigures())]

CHOOSE = [
    bad_needed(), ({"cubes": True}, errors.BadNumber()), ({"faces": 11}, errors.BadNumber()),
    ({"turns": ((9, 6),)}, errors.BadTurns()), ({"needed": TEN, "cubes": 6}, errors.TooMany()),
]

RANGE = [
    ({"low": -1}, errors.BadRange()), ({"high": 0}, errors.BadRange()), ({"width": 5}, errors.BadWidth()),
]

# For each function good arguments, and then for each of its errors, in their order, what has to be changed for it.
CALLS = [
    (Set, {"cubes": ((1,), (2, 3)), "turns": ((6, 9),)},
     [({"cubes": ((1,), ())}, errors.BadCubes(1)), ({"turns": None}, errors.BadTurns())]),
    (showing.shows, {"group": TWO, "number": "29"}, NUMBER),
    (showing.how, {"group": TWO, "number": "29"}, NUMBER),
    (showing.ways, {"group": TWO, "number": "29"}, NUMBER),
    (showing.lacking, {"group": TWO, "number": "16"}, NUMBER),
    (counting.all_shown, {"group": TWO, "width": 2}, [({"width": 5}, errors.BadWidth())]),
    (counting.count_shown, {"group": TWO, "width": 2}, [({"width": True}, errors.BadWidth())]),
    (counting.first_missing, {"group": TWO, "low": 1, "high": 99, "width": 2}, RANGE),
    (counting.shown_numbers, {"group": TWO, "low": 1, "high": 99, "width": 2}, RANGE),
    (choosing.first_unshown, {"group": TWO, "needed": NEEDED}, [bad_needed()]),
    (choosing.count_sets, {"needed": NEEDED, "cubes": 2, "faces": 3, "turns": ((6, 9),)}, CHOOSE),
    (choosing.list_sets, {"needed": NEEDED, "cubes": 2, "faces": 3, "turns": ((6, 9),)}, CHOOSE),
    (choosing.fewest_faces, {"needed": NEEDED, "cubes": 2, "faces": 3, "turns": ((6, 9),)}, CHOOSE),
    (choosing.fewest_cubes, {"needed": NEEDED, "most": 2, "faces": 3, "turns": ((6, 9),)},
     [({name.replace("cubes", "most"): worth for name, worth in told.items()}, error) for told, error in CHOOSE]),
    (mending.gains, {"group": TWO, "needed": NEEDED}, [bad_needed()]),
    (mending.best_face, {"group": TWO, "needed": NEEDED}, [bad_needed()]),
    (mending.needless, {"group": TWO, "needed": NEEDED}, [bad_needed()]),
    (mending.lean, {"group": TWO, "needed": NEEDED}, [bad_needed()]),
    (fitting, {"cubes": 2, "figures": (1, 2), "turns": (), "seen": [("12", True)]},
     [({"cubes": 3}, errors.BadNumber()), ({"figures": ()}, errors.BadFigures()),
      ({"turns": (6, 9)}, errors.BadTurns()), ({"seen": [("12", 1)]}, errors.BadSeen(0))]),
    (show, {"group": TWO, "number": "29"}, NUMBER + [({"number": "16"}, errors.NotShown())]),
    (papers.paper, {"group": TWO, "number": "29"}, NUMBER),
    (papers.right_paper, {"group": TWO, "number": "29", "value": ("way", [1, 0])}, NUMBER),
    (great.great_count, {"group": TWO, "width": 2}, [({"width": 7}, errors.BadWidth())]),
    (great.kth_shown, {"group": TWO, "width": 2, "k": 4},
     [({"width": 0}, errors.BadWidth()), ({"k": 12}, errors.BadNumber())]),
    (great.rank_shown, {"group": TWO, "number": "29"}, NUMBER),
    (losses.first_apart, {"one": TWO, "other": DAYS}, []),
    (losses.first_beyond, {"one": TWO, "other": DAYS}, []),
    (losses.fewest_lost, {"group": TWO, "needed": NEEDED}, [bad_needed()]),
    (losses.most_spare, {"group": TWO, "needed": NEEDED}, [bad_needed()]),
    (plans.cheapest, {"group": TWO, "numbers": NEEDED},
     [bad_needed("numbers"), ({"group": SIX, "numbers": ("1", "123")}, errors.TooMany())]),
    (plans.plan_paper, {"group": TWO, "numbers": NEEDED},
     [bad_needed("numbers"), ({"group": SIX, "numbers": ("1", "123")}, errors.TooMany())]),
    (plans.effort_of, {"group": TWO, "numbers": NEEDED, "ways": ((0, 1), (0,), (1, 0))},
     [bad_needed("numbers"), ({"ways": ((0, 1), (0,), [1, 0])}, errors.BadWays(2))]),
    (plans.shown_least, {"group": TWO, "numbers": NEEDED, "value": ((0,), (0,), (0,))},
     [bad_needed("numbers"), ({"group": SIX, "numbers": ("1", "123")}, errors.TooMany())]),
    (texts.write, {"group": TWO}, []),
    (texts.read, {"text": "cubes 16 23 turns 69"}, [({"text": "cubes 16 x y"}, errors.BadText(2))]),
]


def changed(good, *changes):
    """Good arguments with these changes, the first of them last, so that it holds where several are of one argument."""
    asked = dict(good)
    for change in reversed(changes):
        asked.update(change)
    return asked


def lists_in(value):
    """All lists and dicts within a result."""
    if isinstance(value, (list, tuple)):
        inside = [found for part in value for found in lists_in(part)]
        return ([value] if isinstance(value, list) else []) + inside
    return []


class Errors(unittest.TestCase):
    def test_each_alone(self):
        for call, good, wrong in CALLS:
            for change, error in wrong:
                self.assertEqual(told(call, *changed(good, change).values()), (error.__class__, vars(error)), call)

    def test_of_each_two_the_first(self):
        for call, good, wrong in CALLS:
            for (one, error), (other, _) in itertools.combinations(wrong, 2):
                self.assertEqual(told(call, *changed(good, one, other).values()), (error.__class__, vars(error)), call)

    def test_of_all_together_the_first(self):
        for call, good, wrong in CALLS:
            if wrong:
                asked = changed(good, *[change for change, _ in wrong])
                self.assertEqual(told(call, *asked.values()), (wrong[0][1].__class__, vars(wrong[0][1])), call)

    def test_all_functions_are_called(self):
        listed = {name for words in INTERFACE.values() for name, asked in words.items() if asked is not None}
        errors_alone = {name for name in listed if name in INTERFACE["errors"]}
        called = [call.__name__ for call, _, _ in CALLS]
        self.assertEqual(sorted(called), sorted(listed - errors_alone - {"Holder"} | {"show"}))


class Results(unittest.TestCase):
    def test_by_name_and_by_position(self):
        for call, good, _ in CALLS:
            self.assertEqual(call(**good), call(*good.values()))

    def test_repeated_calls_give_equal_results(self):
        for call, good, _ in CALLS:
            first = call(**good)
            kept = copy.deepcopy(first)
            for other, others, wrong in CALLS:
                other(**others)
                for change, _ in wrong:
                    told(other, *changed(others, change).values())
            self.assertEqual(call(**good), kept)
            self.assertEqual(first, kept)

    def test_what_is_returned_is_new(self):
        for call, good, _ in CALLS:
            kept = copy.deepcopy(call(**good))
            for found in lists_in(call(**good)):
                found.clear()
            self.assertEqual(call(**good), kept)

    def test_what_is_changed_behind_a_call_changes_nothing(self):
        seen = [("12", True)]
        found = fitting(2, (1, 2), (), seen)
        kept = copy.deepcopy(found)
        seen.clear()
        self.assertEqual(found, kept)


class Arguments(unittest.TestCase):
    def parts(self, asked):
        """All that arguments hold, sets by their cubes and turns."""
        return {name: (worth.cubes, worth.turns) if isinstance(worth, Set) else worth for name, worth in asked.items()}

    def test_they_stay_as_they_were(self):
        for call, good, wrong in CALLS:
            for asked in [good] + [changed(good, change) for change, _ in wrong]:
                before = copy.deepcopy(self.parts(asked))
                told(call, *asked.values())
                self.assertEqual(self.parts(asked), before, call)


class Objects(unittest.TestCase):
    def test_equal_to_nothing_of_another_kind(self):
        things = [TWO, Holder(TWO), errors.BadTurns(), errors.BadCubes(0), None, 0, "", (), [], {}, TWO.cubes, True]
        for one, other in itertools.permutations(things, 2):
            self.assertIs(one == other, False)


if __name__ == "__main__":
    unittest.main()
