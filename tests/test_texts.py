import copy
import itertools
import random
import unittest

from daycubes.errors import BadText
from daycubes.sets import Set
from daycubes.texts import read, write
from helper import ANY, DAYS, FIGURES, GROUPS, told

# Texts of no set, each with the index of the first wrong or lacking word.
WRONG = [
    # No word for cubes ahead.
    ("", 0), (" ", 0), ("  ", 0), ("1", 0), ("12 3", 0), ("cube 1", 0), ("Cubes 1", 0), ("CUBES 1", 0), ("cubes: 1", 0),
    ("turns 69", 0), ("turns", 0), (" cubes 1", 0), ("1 cubes", 0), ("\tcubes 1", 0), ("\ncubes 1", 0), ("cubes\t1", 0),
    ("cubes\n1", 0), ("cubes1", 0), ("cubes,1", 0), ("\ufeffcubes 1", 0), ("cubes\u00a01", 0), ("cubes\r 1", 0),
    # No cube behind it.
    ("cubes", 1), ("cubes ", 1), ("cubes turns", 1), ("cubes turns 69", 1), ("cubes  1", 1), ("cubes cubes", 1),
    ("cubes cubes 1", 1),
    # What is no cube.
    ("cubes 11", 1), ("cubes 1223", 1), ("cubes 21", 1), ("cubes 10", 1), ("cubes 90", 1), ("cubes 0 12 43", 3),
    ("cubes 1 2 33 4", 3), ("cubes 01234567899", 1), ("cubes a", 1), ("cubes 1 2a", 2), ("cubes 1,2", 1),
    ("cubes 1 -2", 2), ("cubes +1", 1), ("cubes 1_2", 1), ("cubes 1.2", 1), ("cubes (1,)", 1), ("cubes 1 2;", 2),
    ("cubes \u0661", 1), ("cubes 1 2\u0663", 2), ("cubes \u00b2", 1), ("cubes \uff11", 1), ("cubes \u0967 1", 1),
    ("cubes 1\U0001d7d0", 1), ("cubes \ud800", 1), ("cubes \0", 1), ("cubes 1\0", 1), ("cubes / 1", 1), ("cubes 1:", 1),
    # A seventh cube.
    ("cubes 1 1 1 1 1 1 1", 7), ("cubes 0 1 2 3 4 5 6", 7), ("cubes 1 1 1 1 1 1 1 turns 69", 7),
    ("cubes 1 1 1 1 1 1 x", 7), ("cubes 1 1 1 1 1 1 ", 7), ("cubes 1 1 1 1 1 1 cubes", 7), ("cubes 1 1 1 1 1 1 1 1", 7),
    ("cubes 1 1 1 1 11 1 1", 5),
    # No pair behind the word for turns.
    ("cubes 1 turns", 3), ("cubes 1 2 3 turns", 5), ("cubes 1 turns ", 3), ("cubes 1 turns  69", 3),
    ("cubes 1 1 1 1 1 1 turns", 8), ("cubes 1 turns turns", 3), ("cubes 1 turns turns 69", 3),
    ("cubes 1 turns cubes", 3),
    # What is no pair.
    ("cubes 1 turns 6", 3), ("cubes 1 turns 689", 3), ("cubes 1 turns 66", 3), ("cubes 1 turns 96", 3),
    ("cubes 1 turns 6 9", 3), ("cubes 1 turns 6a", 3), ("cubes 1 turns \u0666\u0669", 3), ("cubes 1 turns 6\uff19", 3),
    ("cubes 1 turns 0123456789", 3), ("cubes 1 turns -69", 3), ("cubes 1 2 turns 01 2", 5),
    ("cubes 1 turns 01 turns", 4), ("cubes 1 turns 01 turns 69", 4), ("cubes 1 turns 01 cubes", 4),
    ("cubes 1 turns 01 234", 4),
    # Pairs that are not ascending, and a figure in two of them.
    ("cubes 1 turns 69 01", 4), ("cubes 1 turns 23 01 69", 4), ("cubes 1 turns 01 45 23", 5),
    ("cubes 1 turns 69 69", 4), ("cubes 1 turns 01 12", 4), ("cubes 1 turns 01 23 29", 5),
    ("cubes 1 turns 05 15", 4), ("cubes 1 turns 01 02", 4),
    ("cubes 1 turns 01 23 45 67 89 89", 8), ("cubes 1 turns 01 23 45 67 89 9", 8),
    ("cubes 1 turns 09 18 27 36 45 59", 8), ("cubes 1 turns 01 32", 4), ("cubes 1 turns 69 x 01", 4),
    # Spaces, line feeds and tabs that are too many.
    ("cubes 1 ", 2), ("cubes 1  2", 2), ("cubes 1 2 ", 3), ("cubes 1 2  turns 69", 3), ("cubes 1 turns 69 ", 4),
    ("cubes 1 turns 69  ", 4), ("cubes 1 turns 01  69", 4), ("cubes 1\n", 1), ("cubes 1\n2", 1), ("cubes 1 2\n", 2),
    ("cubes 1 turns 69\n", 3), ("cubes 1\t2", 1), ("cubes 1 \t", 2), ("cubes 1 turns\t69", 2), ("cubes 1 turns\n", 2),
    ("cubes 1\r\n", 1), ("cubes 1 turns 69\r", 3), ("cubes 1\u00a02", 1), ("cubes 1\x0b", 1), ("cubes \n1", 1),
    ("cubes 1 Turns 69", 2), ("cubes 1 turn 69", 2), ("cubes 1 cubes 2", 2), ("cubes 1 turns 69 1", 4),
]


class ThereAndBack(unittest.TestCase):
    def test_sets_of_one_to_six_cubes(self):
        for group in GROUPS + [Set((FIGURES,) * 6, ((0, 1), (2, 3), (4, 5), (6, 7), (8, 9)))]:
            self.assertEqual(read(write(group)), group)
            self.assertEqual(write(read(write(group))), write(group))

    def test_each_cube(self):
        for many in range(1, 11):
            for cube in itertools.combinations(range(10), many):
                text = "cubes " + "".join(map(str, cube))
                self.assertEqual((write(Set((cube,))), read(text)), (text, Set((cube,))))

    def test_each_pair_and_each_two_pairs(self):
        pairs = list(itertools.combinations(range(10), 2))
        for pair in pairs:
            text = "cubes 1 turns {}{}".format(*pair)
            self.assertEqual((write(Set(((1,),), (pair,))), read(text)), (text, Set(((1,),), (pair,))))
        for one, other in itertools.product(pairs, repeat=2):
            text = "cubes 1 2 turns {}{} {}{}".format(*one, *other)
            if one < other and not set(one) & set(other):
                self.assertEqual(read(text), Set(((1,), (2,)), (one, other)))
                self.assertEqual(write(Set(((1,), (2,)), (one, other))), text)
            else:
                self.assertEqual(told(read, text), (BadText, {"word": 5}))

    def test_sets_of_all_sizes(self):
        chance = random.Random(14)
        for many in range(1, 7):
            for _ in range(50):
                cubes = tuple(tuple(sorted(chance.sample(range(10), chance.randint(1, 10)))) for _ in range(many))
                figures = chance.sample(range(10), 2 * chance.randint(0, 5))
                turns = tuple(sorted(tuple(sorted(figures[at:at + 2])) for at in range(0, len(figures), 2)))
                group = Set(cubes, turns)
                self.assertEqual(read(write(group)), group)
                self.assertEqual(len(write(group).split(" ")), 1 + many + (1 + len(turns) if turns else 0))

    def test_by_hand(self):
        self.assertEqual(write(DAYS), "cubes 012345 012678 turns 69")
        self.assertEqual(write(Set(((1,), (2, 3)))), "cubes 1 23")
        self.assertEqual(write(Set(((0,),), ((0, 9), (1, 8)))), "cubes 0 turns 09 18")
        self.assertEqual(read("cubes 9 9 9 9 9 9 turns 01 23 45 67 89"),
                         Set(((9,),) * 6, ((0, 1), (2, 3), (4, 5), (6, 7), (8, 9))))
        self.assertEqual(read("cubes 0123456789"), Set((FIGURES,)))

    def test_kinds(self):
        self.assertIs(write(DAYS).__class__, str)
        self.assertIs(read("cubes 1").__class__, Set)
        self.assertIs(read("cubes 1").cubes[0][0].__class__, int)


class WrongTexts(unittest.TestCase):
    def test_the_first_wrong_or_lacking_word(self):
        for text, word in WRONG:
            self.assertEqual(told(read, text), (BadText, {"word": word}), repr(text))

    def test_a_wrong_word_at_each_place(self):
        words = ["cubes", "1", "23", "456", "turns", "01", "23", "69"]
        for place in range(len(words)):
            for wrong in ("", "x", "1 ", "\n", "\t", "11", "21", "1a", "\u0661", "-1", "cubes!", " "):
                found = told(read, " ".join(words[:place] + [wrong] + words[place + 1:]))
                self.assertIs(found[0], BadText)
                # A cube with a space behind it is right, but not the empty word behind that.
                ahead = 1 if wrong == "1 " and 1 <= place <= 4 else 0
                self.assertEqual(found[1], {"word": place + ahead}, (place, wrong))

    def test_each_part_of_a_text_that_is_too_short(self):
        words = ["cubes", "1", "23", "turns", "01", "69"]
        for many in range(1, len(words) + 1):
            found = told(read, " ".join(words[:many]))
            if many in (1, 4):
                self.assertEqual(found, (BadText, {"word": many}))
            else:
                self.assertIs(found.__class__, Set)

    def test_each_sign_that_is_no_figure_of_ascii(self):
        for code in range(0x3000):
            if chr(code) not in "0123456789 ":
                self.assertEqual(told(read, "cubes 1 " + chr(code)), (BadText, {"word": 2}))
                self.assertEqual(told(read, "cubes 1 turns 0" + chr(code)), (BadText, {"word": 3}))

    def test_any_value(self):
        for value in ANY + [b"cubes 1", ("cubes 1",), ["cubes", "1"], {"cubes": 1}]:
            word = 0 if isinstance(value, str) else None
            self.assertEqual(told(read, value), (BadText, {"word": word}))

    def test_long_texts(self):
        for text, word in (("cubes " + "1 " * 50000, 7), ("cubes " + "1" * 50000, 1), (" " * 50000, 0),
                           ("cubes 1 turns " + "69 " * 50000, 4), ("cubes 1" + " " * 50000, 2)):
            self.assertEqual(told(read, text), (BadText, {"word": word}))

    def test_the_word_is_an_integer(self):
        for text, _ in WRONG:
            self.assertIs(told(read, text)[1]["word"].__class__, int)


class NothingChanges(unittest.TestCase):
    def test_repeated_calls_give_equal_results(self):
        for group in GROUPS:
            before = (copy.deepcopy(group.cubes), copy.deepcopy(group.turns))
            self.assertEqual(write(group), write(group))
            self.assertEqual(read(write(group)), read(write(group)))
            self.assertIsNot(read(write(group)), read(write(group)))
            self.assertEqual((group.cubes, group.turns), before)

    def test_arguments_stay_as_they_were(self):
        for value in ANY:
            before = copy.deepcopy(value)
            told(read, value)
            self.assertEqual(value, before)


if __name__ == "__main__":
    unittest.main()
