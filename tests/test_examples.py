import doctest
import unittest

# These are the document's examples, word for word.
SHOWING_AND_COUNTING = """
>>> from daycubes.counting import all_shown, count_shown, first_missing, shown_numbers
>>> from daycubes.sets import Set
>>> from daycubes.showing import how, lacking, shows, ways
>>> days = Set(((0, 1, 2, 3, 4, 5), (0, 1, 2, 6, 7, 8)), ((6, 9),))
>>> found = [shows(days, "31"), shows(days, "33"), how(days, "12"), how(days, "69"), how(days, "9"), ways(days, "12")]
>>> found = found + [lacking(days, "33"), lacking(days, "69"), lacking(days, "012"), lacking(days, "09")]
>>> found = found + [first_missing(days, 1, 31, 2), first_missing(days, 1, 99, 2), shown_numbers(days, 1, 31, 2)]
>>> found + [count_shown(days, 1), count_shown(days, 2), all_shown(Set(((1,), (2, 3))), 2)]
[True, False, (0, 1), None, (1,), 2, ((0, 1), (0,)), ((0, 1), (1,)), ((0, 1, 2), (0, 1)), None, None, 33, 31, 10, 75, ['12', '13', '21', '31']]
"""

CHOOSING = """
>>> from daycubes.choosing import count_sets, fewest_cubes, fewest_faces, first_unshown, list_sets
>>> from daycubes.sets import Set
>>> needed = ("01", "10", "11")
>>> days = tuple([("0" + str(day))[-2:] for day in range(1, 32)])
>>> found = [count_sets(needed, 2, 6, ()), list_sets(needed, 2, 6, ()), fewest_faces(needed, 2, 6, ()), count_sets(needed, 1, 6, ())]
>>> found = found + [fewest_cubes(needed, 3, 6, ()), fewest_cubes(needed, 1, 6, ()), first_unshown(Set(((1,), (2, 3))), ("31", "33"))]
>>> found + [count_sets(days, 2, 6, ((6, 9),)), fewest_faces(days, 2, 6, ((6, 9),)), count_sets(days, 2, 6, ())]
[2, [((0, 1), (0, 1)), ((0, 1), (1,))], (3, 1), 0, 2, None, '33', 10, (12, 10), 0]
"""

MENDING = """
>>> from daycubes.mending import best_face, gains, lean, needless
>>> from daycubes.sets import Set
>>> needed = ("12", "21", "11", "22", "13")
>>> found = [best_face(Set(((1,), (2,))), needed), len(gains(Set(((1,), (2,))), needed))]
>>> found = found + [needless(Set(((0, 1), (0, 1))), ("01", "10", "11"))]
>>> found + [lean(Set(((0, 1), (0, 1))), ("01", "10", "11")).cubes]
[(0, 2, 1), 18, [(0, 0), (1, 0)], ((1,), (0, 1))]
"""


class Examples(unittest.TestCase):
    def holds(self, text, many):
        test = doctest.DocTestParser().get_doctest(text, {}, "example", None, None)
        self.assertEqual(doctest.DocTestRunner().run(test), (0, many))

    def test_showing_and_counting(self):
        self.holds(SHOWING_AND_COUNTING, 8)

    def test_choosing(self):
        self.holds(CHOOSING, 7)

    def test_mending(self):
        self.holds(MENDING, 6)


if __name__ == "__main__":
    unittest.main()
