import doctest
import unittest

# These are the document's examples, word for word.
SHOWING_AND_COUNTING = """
>>> from daycubes.counting import all_shown, count_shown, first_missing, shown_numbers
>>> from daycubes.sets import Set
>>> from daycubes.showing import how, lacking, shows, ways
>>> days = Set(((0, 1, 2, 3, 4, 5), (0, 1, 2, 6, 7, 8)), ((6, 9),))
>>> found = [shows(days, "31"), shows(days, "33"), how(days, "12"), how(days, "69"), how(days, "9"), ways(days, "12")]
>>> found = found + [lacking(days, "33"), lacking(days, "69"), lacking(days, "012"), lacking(days, "09")]
>>> found = found + [first_missing(days, 1, 31, 2), first_missing(days, 1, 99, 2), shown_numbers(days, 1, 31, 2)]
>>> found + [count_shown(days, 1), count_shown(days, 2), all_shown(Set(((1,), (2, 3))), 2)]
[True, False, (0, 1), None, (1,), 2, ((0, 1), (0,)), ((0, 1), (1,)), ((0, 1, 2), (0, 1)), None, None, 33, 31, 10, 75, ['12', '13', '21', '31']]
"""

CHOOSING = """
>>> from daycubes.choosing import count_sets, fewest_cubes, fewest_faces, first_unshown, list_sets
>>> from daycubes.sets import Set
>>> needed = ("01", "10", "11")
>>> days = tuple([("0" + str(day))[-2:] for day in range(1, 32)])
>>> found = [count_sets(needed, 2, 6, ()), list_sets(needed, 2, 6, ()), fewest_faces(needed, 2, 6, ()), count_sets(needed, 1, 6, ())]
>>> found = found + [fewest_cubes(needed, 3, 6, ()), fewest_cubes(needed, 1, 6, ()), first_unshown(Set(((1,), (2, 3))), ("31", "33"))]
>>> found + [count_sets(days, 2, 6, ((6, 9),)), fewest_faces(days, 2, 6, ((6, 9),)), count_sets(days, 2, 6, ())]
[2, [((0, 1), (0, 1)), ((0, 1), (1,))], (3, 1), 0, 2, None, '33', 10, (12, 10), 0]
"""

MENDING = """
>>> from daycubes.mending import best_face, gains, lean, needless
>>> from daycubes.sets import Set
>>> needed = ("12", "21", "11", "22", "13")
>>> found = [best_face(Set(((1,), (2,))), needed), len(gains(Set(((1,), (2,))), needed))]
>>> found = found + [needless(Set(((0, 1), (0, 1))), ("01", "10", "11"))]
>>> found + [lean(Set(((0, 1), (0, 1))), ("01", "10", "11")).cubes]
[(0, 2, 1), 18, [(0, 0), (1, 0)], ((1,), (0, 1))]
"""

TELLING_BACK = """
>>> from daycubes.told import fitting
>>> found = [fitting(1, (1, 2), (), [("1", True)]), fitting(2, (1, 2), (), [("11", True), ("22", False)])]
>>> found + [fitting(1, (3,), (), [("4", True)])]
[(2, [(0, 1)], [(0, 1), (0, 2)]), (3, [(0, 1), (1, 1)], [(0, 1), (0, 2), (1, 1), (1, 2)]), (0, [], [])]
"""

HOLDING = """
>>> from daycubes.holders import Holder
>>> from daycubes.sets import Set
>>> holder = Holder(Set(((0, 1, 2, 3, 4, 5), (0, 1, 2, 6, 7, 8)), ((6, 9),)))
>>> found = [holder.show("12"), holder.way, holder.show("13"), holder.way, holder.show("23"), holder.effort]
>>> found + [holder.figures, len(holder), holder.undo(), holder.figures, holder.effort, holder.redo(), holder.way]
[2, (0, 1), 2, (1, 0), 1, 5, '23', 3, True, '13', 4, True, (1, 0)]
"""

TEXTS = """
>>> from daycubes.sets import Set
>>> from daycubes.texts import read, write
>>> days = Set(((0, 1, 2, 3, 4, 5), (0, 1, 2, 6, 7, 8)), ((6, 9),))
>>> [write(days), read(write(days)) == days, read("cubes 1 23").cubes, len(days)]
['cubes 012345 012678 turns 69', True, ((1,), (2, 3)), 2]
"""

PAPERS_GREAT_AND_LOSSES = """
>>> from daycubes.great import great_count, kth_shown, rank_shown
>>> from daycubes.losses import fewest_lost, first_apart, first_beyond, most_spare
>>> from daycubes.papers import paper, right_paper
>>> from daycubes.sets import Set
>>> two = Set(((1, 6), (2, 3)), ((6, 9),))
>>> found = [paper(two, "29"), paper(two, "16"), right_paper(two, "16", ("lacks", (0, 1))), right_paper(two, "29", ("way", (0, 1)))]
>>> found = found + [great_count(two, 1), great_count(two, 2), kth_shown(two, 2, 4), rank_shown(two, "21"), rank_shown(two, "22")]
>>> found = found + [first_apart(two, Set(((1, 6), (2, 3)))), first_beyond(two, Set(((1,), (1, 2))))]
>>> found + [fewest_lost(two, ("1", "23", "3")), most_spare(two, ("1", "6")), fewest_lost(two, ("0",))]
[('way', (1, 0)), ('lacks', (0, 1)), True, False, 5, 12, '29', 2, None, '9', '11', (1, [(0,), (1,)]), (1, [(1,)]), None]
"""

PLANS = """
>>> from daycubes.plans import cheapest, effort_of, plan_paper, shown_least
>>> from daycubes.sets import Set
>>> two = Set(((1, 2), (1, 2)))
>>> found = [cheapest(two, ("1", "12", "2")), effort_of(two, ("1", "12"), ((0,), (1, 0))), plan_paper(two, ("1", "12"))]
>>> found + [shown_least(two, ("1", "12"), ((1, 1), (0, 0))), shown_least(two, ("1", "12"), ((2, 1), (0, 0))), cheapest(two, ("3",))]
[(3, ((0,), (0, 1), (0,))), 3, ((1, 1), (0, 0)), 2, None, None]
"""


class Examples(unittest.TestCase):
    def holds(self, text, many):
        test = doctest.DocTestParser().get_doctest(text, {}, "example", None, None)
        self.assertEqual(doctest.DocTestRunner().run(test), (0, many))

    def test_showing_and_counting(self):
        self.holds(SHOWING_AND_COUNTING, 8)

    def test_choosing(self):
        self.holds(CHOOSING, 7)

    def test_mending(self):
        self.holds(MENDING, 6)

    def test_telling_back(self):
        self.holds(TELLING_BACK, 3)

    def test_holding(self):
        self.holds(HOLDING, 5)

    def test_texts(self):
        self.holds(TEXTS, 4)

    def test_papers_great_and_losses(self):
        self.holds(PAPERS_GREAT_AND_LOSSES, 9)

    def test_plans(self):
        self.holds(PLANS, 5)


if __name__ == "__main__":
    unittest.main()
