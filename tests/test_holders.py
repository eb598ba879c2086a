import copy
import itertools
import random
import unittest

from daycubes.errors import BadFigures, NotShown
from daycubes.holders import Holder
from daycubes.sets import Set
from helper import ANY, DAYS, FIGURES, GROUPS, WRONG_NUMBERS, plain_touched, plain_ways, told


class PlainHolder:
    """A holder as the document says it, by a search over all ways; states are kept whole."""

    def __init__(self, group):
        self.group = group
        self.states = [("", (), 0)]
        self.later = []

    def show(self, number):
        ahead, stood, effort = self.states[-1]
        rows = []
        for way in plain_ways(self.group.cubes, self.group.turns, number):
            rows.append((plain_touched(number, way, ahead, stood), way))
        if not rows:
            return (NotShown, {})
        self.states.append((number, min(rows)[1], effort + min(rows)[0]))
        self.later = []
        return min(rows)[0]

    def undo(self):
        if len(self.states) > 1:
            self.later.append(self.states.pop())
            return True
        return False

    def redo(self):
        if self.later:
            self.states.append(self.later.pop())
            return True
        return False

    def state(self):
        return self.states[-1] + (len(self.states) - 1,)


def state(holder):
    """All that a holder tells of itself."""
    return (holder.figures, holder.way, holder.effort, len(holder))


def holding(group, *numbers):
    """A holder in which these numbers were shown."""
    holder = Holder(group)
    for number in numbers:
        holder.show(number)
    return holder


def numbers_for(group, chance):
    """A number for a set: mostly of figures that it has, of as many signs as it has cubes at most."""
    figures = sorted({figure for cube in group.cubes for figure in cube} | {f for pair in group.turns for f in pair})
    many = chance.randint(1, len(group) + chance.choice((0, 0, 0, 1)))
    return "".join(str(chance.choice(figures)) for _ in range(min(many, 6)))


class AgainstAllWays(unittest.TestCase):
    def test_each_two_numbers_one_behind_the_other(self):
        groups = [DAYS, Set(((1, 2), (1, 2))), Set(((1, 6), (2, 3), (1, 9)), ((6, 9),)), Set(((0, 1, 2),) * 3)]
        for group in groups:
            signs = "012" if len(group) == 3 and not group.turns else "1269"
            numbers = ["".join(row) for many in (1, 2, 3) for row in itertools.product(signs, repeat=many)]
            numbers = [number for number in numbers if plain_ways(group.cubes, group.turns, number)]
            for one, other in itertools.product(numbers, repeat=2):
                holder, plain = Holder(group), PlainHolder(group)
                for number in (one, other):
                    self.assertEqual(holder.show(number), plain.show(number), (one, other))
                    self.assertEqual(state(holder), plain.state(), (one, other))

    def test_long_rows_of_all_that_can_be_done(self):
        chance = random.Random(8)
        for group in GROUPS:
            holder, plain = Holder(group), PlainHolder(group)
            for _ in range(150):
                step = chance.choice(("show", "show", "show", "undo", "undo", "redo", "redo"))
                if step == "show":
                    number = numbers_for(group, chance)
                    self.assertEqual(told(holder.show, number), plain.show(number))
                else:
                    self.assertIs(getattr(holder, step)(), getattr(plain, step)())
                self.assertEqual(state(holder), plain.state())

    def test_six_cubes_with_all_figures(self):
        group = Set((FIGURES,) * 6)
        holder, plain = Holder(group), PlainHolder(group)
        for number in ("123456", "654321", "1", "21", "123456", "000000", "923456"):
            self.assertEqual(holder.show(number), plain.show(number))
            self.assertEqual(state(holder), plain.state())


class AtFirst(unittest.TestCase):
    def test_nothing_is_shown(self):
        for group in GROUPS:
            self.assertEqual(state(Holder(group)), ("", (), 0, 0))

    def test_its_set(self):
        for group in GROUPS:
            self.assertEqual(Holder(group).group, group)
            self.assertIs(Holder(group).group.__class__, Set)

    def test_nothing_to_take_back_or_bring_again(self):
        holder = Holder(DAYS)
        self.assertIs(holder.undo(), False)
        self.assertIs(holder.redo(), False)
        self.assertEqual(state(holder), ("", (), 0, 0))

    def test_properties_and_methods_stand_in_the_class_itself(self):
        for name in ("group", "figures", "way", "effort"):
            self.assertIsInstance(vars(Holder)[name], property)
        self.assertLessEqual({"__init__", "__len__", "show", "undo", "redo"}, set(vars(Holder)))

    def test_kinds(self):
        holder = holding(DAYS, "12", "9")
        self.assertEqual([part.__class__ for part in state(holder)], [str, tuple, int, int])
        self.assertIs(holder.show("12").__class__, int)

    def test_equal_to_nothing_of_another_kind(self):
        for value in ANY + [DAYS, ""]:
            self.assertIs(Holder(DAYS) == value, False)

    def test_holders_of_one_set_are_apart(self):
        one, other = Holder(DAYS), Holder(DAYS)
        one.show("12")
        self.assertEqual(state(other), ("", (), 0, 0))


class Touched(unittest.TestCase):
    def test_all_places_at_first_and_none_of_the_same_number(self):
        group = Set((FIGURES,) * 6)
        for number in ("1", "12", "111111"):
            holder = Holder(group)
            self.assertEqual((holder.show(number), holder.show(number)), (len(number), 0))
            self.assertEqual((holder.effort, len(holder)), (len(number), 2))

    def test_the_same_cube_for_another_sign_is_touched(self):
        holder = holding(Set(((1, 2),)), "1")
        self.assertEqual((holder.show("2"), holder.way), (1, (0,)))
        holder = holding(Set(((6,),), ((6, 9),)), "6")
        self.assertEqual((holder.show("9"), holder.show("9"), holder.way), (1, 0, (0,)))

    def test_the_same_cube_for_the_same_sign_is_not(self):
        holder = holding(Set(((1,), (2, 3))), "12")
        self.assertEqual((holder.show("13"), holder.way), (1, (0, 1)))
        self.assertEqual((holder.show("31"), holder.way), (2, (1, 0)))

    def test_a_sign_at_another_place_is_touched(self):
        holder = holding(Set(((1,), (2,))), "12")
        self.assertEqual((holder.show("21"), holder.effort), (2, 4))

    def test_a_longer_number_behind_a_shorter_one(self):
        holder = holding(Set((FIGURES,) * 6), "12")
        self.assertEqual((holder.show("123"), holder.way), (1, (0, 1, 2)))
        self.assertEqual((holder.show("123456"), holder.effort), (3, 6))

    def test_a_shorter_number_behind_a_longer_one(self):
        holder = holding(Set((FIGURES,) * 6), "123")
        self.assertEqual((holder.show("12"), holder.way), (0, (0, 1)))
        self.assertEqual((holder.show("2"), holder.way), (1, (0,)))
        self.assertEqual((holder.effort, len(holder)), (4, 3))

    def test_the_fewest_touched_though_another_way_is_less(self):
        holder = holding(Set(((1, 2), (2, 3))), "3")
        self.assertEqual((holder.way, holder.show("32"), holder.way), ((1,), 1, (1, 0)))
        holder = holding(Set(((1, 3), (1, 2))), "21")
        self.assertEqual(holder.way, (1, 0))
        self.assertEqual((holder.show("11"), holder.way), (1, (1, 0)))
        self.assertEqual(holding(Set(((1, 3), (1, 2))), "11").way, (0, 1))

    def test_the_least_of_several(self):
        holder = holding(Set(((1, 2), (1, 2), (1, 2))), "1")
        self.assertEqual((holder.show("22"), holder.way), (2, (0, 1)))
        self.assertEqual((holder.show("11"), holder.way), (2, (0, 1)))
        self.assertEqual((holder.show("21"), holder.way), (1, (0, 1)))

    def test_what_stands_behind_undo_is_what_stood_before(self):
        holder = holding(Set(((1,), (2, 3))), "12", "31")
        holder.undo()
        self.assertEqual((holder.show("13"), holder.way, holder.effort), (1, (0, 1), 3))


class UndoAndRedo(unittest.TestCase):
    def test_there_and_back(self):
        numbers = ("12", "13", "23", "9", "09")
        holder = Holder(DAYS)
        states = [state(holder)]
        for number in numbers:
            holder.show(number)
            states.append(state(holder))
        for kept in states[-2::-1]:
            self.assertIs(holder.undo(), True)
            self.assertEqual(state(holder), kept)
        self.assertIs(holder.undo(), False)
        self.assertEqual(state(holder), states[0])
        for kept in states[1:]:
            self.assertIs(holder.redo(), True)
            self.assertEqual(state(holder), kept)
        self.assertIs(holder.redo(), False)
        self.assertEqual(state(holder), states[-1])

    def test_none_to_bring_again_behind_a_new_number(self):
        holder = holding(DAYS, "12", "13")
        holder.undo()
        holder.show("23")
        before = state(holder)
        self.assertIs(holder.redo(), False)
        self.assertEqual(state(holder), before)

    def test_none_to_bring_again_behind_the_same_number(self):
        holder = holding(DAYS, "12", "13")
        holder.undo()
        holder.show("13")
        self.assertEqual((holder.redo(), len(holder)), (False, 2))

    def test_those_further_ahead_are_gone_behind_a_new_number_too(self):
        holder = holding(DAYS, "1", "2", "3")
        self.assertEqual([holder.undo(), holder.undo(), holder.show("4")], [True, True, 1])
        self.assertEqual([holder.redo(), holder.undo(), holder.redo(), holder.redo()], [False, True, True, False])
        self.assertEqual((holder.figures, len(holder)), ("4", 2))

    def test_a_number_that_is_not_shown_takes_nothing_away_from_redo(self):
        holder = holding(DAYS, "12", "13")
        holder.undo()
        for wrong in ("33", "", None, "012"):
            told(holder.show, wrong)
        self.assertEqual((holder.redo(), holder.figures), (True, "13"))

    def test_effort_and_len_behind_each_step(self):
        holder = Holder(DAYS)
        steps = [("show", 2, 1), ("show", 4, 2), ("undo", 2, 1), ("undo", 0, 0), ("redo", 2, 1), ("redo", 4, 2)]
        numbers = ["12", "13"]
        for step, effort, many in steps:
            if step == "show":
                holder.show(numbers.pop(0))
            else:
                getattr(holder, step)()
            self.assertEqual((holder.effort, len(holder)), (effort, many))


class WrongNumbers(unittest.TestCase):
    def test_any_value_that_is_no_number(self):
        for holder in (Holder(DAYS), holding(DAYS, "12", "09")):
            before = state(holder)
            for value in WRONG_NUMBERS:
                self.assertEqual(told(holder.show, value), (BadFigures, {}))
                self.assertEqual(state(holder), before)

    def test_a_number_that_is_not_shown(self):
        for holder in (Holder(DAYS), holding(DAYS, "12", "09")):
            before = state(holder)
            for number in ("33", "69", "012", "123456", "99"):
                self.assertEqual(told(holder.show, number), (NotShown, {}))
                self.assertEqual(state(holder), before)

    def test_what_is_no_number_is_named_first(self):
        self.assertEqual(told(Holder(DAYS).show, "3333333"), (BadFigures, {}))

    def test_nothing_changes_behind_an_error(self):
        for wrong in ("33", "", None, ["12"]):
            holder, other = holding(DAYS, "12", "13", "23"), holding(DAYS, "12", "13", "23")
            holder.undo()
            other.undo()
            told(holder.show, wrong)
            for step in ("redo", "undo", "undo", "undo", "undo", "redo"):
                self.assertEqual(getattr(holder, step)(), getattr(other, step)())
                self.assertEqual(state(holder), state(other))


class NothingChanges(unittest.TestCase):
    def test_the_set_stays_as_it_was(self):
        for group in GROUPS:
            before = (copy.deepcopy(group.cubes), copy.deepcopy(group.turns))
            holder = Holder(group)
            for number in ("1", "6", "12", "33", ""):
                told(holder.show, number)
            self.assertEqual((group.cubes, group.turns), before)

    def test_reading_changes_nothing(self):
        holder = holding(DAYS, "12", "13")
        holder.undo()
        self.assertEqual(state(holder), state(holder))
        self.assertIs(holder.redo(), True)


if __name__ == "__main__":
    unittest.main()
