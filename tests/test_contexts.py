"""Contexts: [20] and [62]."""

import random
import unittest

from sharefold.contexts import closed, is_context, level_at, marked, opened, paired, unmarked, unpaired
from sharefold.errors import InvalidContext, InvalidNumber
from sharefold.levels import is_same_level
from tests.net_oracle import level, passed, trimmed
from tests.samples import ODD_VALUES

ONE, TWO = (1, ()), (2, ())
PAIR = ("pair", ONE, ())


def marks(many, inner=()):
    """A level of so many marks ahead of another one."""
    for _ in range(many):
        inner = (1, inner)
    return inner


def pairs(many):
    inner = ONE
    for _ in range(many):
        inner = ("pair", (), inner)
    return inner


def random_level(dice, deep=4):
    if deep == 0 or dice.random() < 0.3:
        return ()
    if dice.random() < 0.6:
        return dice.choice([1, 2]), random_level(dice, deep - 1)
    own = ("pair", random_level(dice, deep - 1), random_level(dice, deep - 1))
    return own if own[1:] != ((), ()) else ()


def random_context(dice):
    return trimmed([random_level(dice) for _ in range(dice.randrange(6))])


class IsContextTest(unittest.TestCase):

    def test_contexts(self):
        for value in [(), (ONE,), ((), ONE), ((), (), (2, (1, ()))), (PAIR,), (("pair", (), TWO),), ((1, PAIR),),
                      (("pair", ONE, TWO), ("pair", PAIR, ()))]:
            self.assertIs(is_context(value), True, value)

    def test_no_contexts(self):
        for value in ODD_VALUES:
            self.assertIs(is_context(value), value == (), value)
            self.assertIs(is_context((value,)), False)
            self.assertIs(is_context((value, ONE)), value == ())
            self.assertIs(is_context(((1, value),)), value == ())
            self.assertIs(is_context((("pair", ONE, value),)), value == ())
            self.assertIs(is_context((("pair", value, ONE),)), value == ())
            self.assertIs(is_context(((value, ()),)), False)
            self.assertIs(is_context(((value, ONE, TWO),)), False)
        for value in [((),), (ONE, ()), [ONE], ([1, ()],), ((1, []),), ((True, ()),), ((0, ()),), ((3, ()),), ((1,),),
                      ((1, (), ()),), (("pair", (), ()),), (("pair", ONE),), (["pair", ONE, ONE],), (("pair",),),
                      (("Pair", ONE, ONE),), ((1, ("pair", (), ())),), (("1", ()),), ONE, (1, ONE), (("pair", ONE, [], ),)]:
            self.assertIs(is_context(value), False, value)

    def test_100_levels_and_one_more(self):
        for many, expected in [(99, True), (100, True), (101, False), (2000, False)]:
            self.assertIs(is_context((ONE,) * many), expected)
            self.assertIs(is_context(((),) * (many - 1) + (TWO,)), expected)

    def test_41_levels_in_one_another_and_one_more(self):
        for many, expected in [(39, True), (40, True), (41, False), (90, False)]:
            self.assertIs(is_context((marks(many),)), expected)
            self.assertIs(is_context(((), marks(many))), expected)
        for many, expected in [(38, True), (39, True), (40, False), (90, False)]:
            self.assertIs(is_context((pairs(many),)), expected)
            self.assertIs(is_context((("pair", marks(many), ()),)), expected if many != 39 else True)
            self.assertIs(is_context((("pair", (), marks(many)),)), expected)


class LevelsTest(unittest.TestCase):

    def test_level_at(self):
        context = (ONE, (), PAIR)
        self.assertEqual([level_at(context, index) for index in (0, 1, 2, 3, 40)], [ONE, (), PAIR, (), ()])
        self.assertEqual(level_at((ONE,) * 100, 40), ONE)

    def test_marks(self):
        self.assertEqual(marked((), 0, 1), (ONE,))
        self.assertEqual(marked((PAIR,), 0, 2), ((2, PAIR),))
        self.assertEqual(marked((), 40, 2), ((),) * 40 + (TWO,))
        self.assertEqual(unmarked((ONE, TWO), 0), (1, ((), TWO)))
        self.assertEqual(unmarked((ONE, TWO), 1), (2, (ONE,)))
        self.assertEqual(unmarked(((), (), TWO), 2), (2, ()))
        self.assertEqual(unmarked(((2, PAIR),), 0), (2, (PAIR,)))
        self.assertIsNone(unmarked((PAIR,), 0))
        self.assertIsNone(unmarked((ONE,), 1))

    def test_levels_put_in_and_taken_out(self):
        self.assertEqual(opened((ONE, TWO), 1), (ONE, (), TWO))
        self.assertEqual(opened((ONE,), 1), (ONE,))
        self.assertEqual(opened((ONE,), 7), (ONE,))
        self.assertEqual(closed((ONE, (), TWO), 1), (ONE, TWO))
        self.assertEqual(closed((ONE,), 1), (ONE,))
        self.assertEqual(closed((), 40), ())
        self.assertIsNone(closed((PAIR,), 0))

    def test_pairs(self):
        self.assertEqual(paired((ONE, TWO, PAIR), 0), (("pair", ONE, TWO), PAIR))
        self.assertEqual(paired((ONE, TWO, PAIR), 2), (ONE, TWO, ("pair", PAIR, ())))
        self.assertEqual(paired(((), (), ONE), 0), ((), ONE))
        self.assertEqual(paired(((), ONE), 0), (("pair", (), ONE),))
        self.assertEqual(paired((ONE,), 1), (ONE,))
        self.assertEqual(unpaired((PAIR, TWO), 0), (ONE, (), TWO))
        self.assertEqual(unpaired((PAIR,), 0), (ONE,))
        self.assertEqual(unpaired(((), ONE), 0), ((), (), ONE))
        self.assertEqual(unpaired((ONE,), 3), (ONE,))
        self.assertIsNone(unpaired((TWO,), 0))

    def test_greater_than_contexts_that_are_handed_in(self):
        self.assertEqual(len(opened((ONE,) * 100, 3)), 101)
        self.assertEqual(len(unpaired((PAIR,) * 100, 0)), 101)
        self.assertIs(is_context(marked((marks(40),), 0, 1)), False)
        self.assertEqual(marked((marks(40),), 0, 1), (marks(41),))

    def test_like_moves(self):
        dice = random.Random(121)
        for _ in range(2000):
            context, index = random_context(dice), dice.randrange(7)
            self.assertIs(is_context(context), True)
            self.assertEqual(level_at(context, index), level(context, index))
            for mark in (1, 2):
                self.assertEqual((0, marked(context, index, mark)), passed("fan", index, mark, context))
            self.assertEqual((0, opened(context, index)), passed("open", index, 1, context))
            self.assertEqual((0, paired(context, index)), passed("box", index, 1, context))
            self.assertEqual(unmarked(context, index), tried("fan", index, context))
            for kind, function in [("open", closed), ("box", unpaired)]:
                behind = function(context, index)
                self.assertEqual(None if behind is None else (1, behind), tried(kind, index, context))

    def test_there_and_back(self):
        dice = random.Random(122)
        for _ in range(300):
            context, index = random_context(dice), dice.randrange(5)
            self.assertEqual(unmarked(marked(context, index, 2), index), (2, context))
            self.assertEqual(closed(opened(context, index), index), context)
            self.assertEqual(unpaired(paired(context, index), index), context)


class SameLevelTest(unittest.TestCase):

    def test_levels(self):
        dice = random.Random(123)
        for _ in range(500):
            one, other = random_level(dice), random_level(dice)
            self.assertIs(is_same_level(one, other), one == other)
            self.assertIs(is_same_level(one, one), True)

    def test_pairs(self):
        self.assertIs(is_same_level(("pair", ONE, TWO), ("pair", ONE, TWO)), True)
        for other in [("pair", ONE, ONE), ("pair", TWO, TWO), ("pair", ONE, ()), ("pair", (), TWO), ONE, (), (1, PAIR)]:
            self.assertIs(is_same_level(("pair", ONE, TWO), other), False)

    def test_deep_levels(self):
        self.assertIs(is_same_level(marks(20000), marks(20000)), True)
        self.assertIs(is_same_level(marks(20000, TWO), marks(20001)), False)


def tried(kind, index, context):
    try:
        return passed(kind, index, 0, context)
    except ValueError:
        return None


class WrongArgumentsTest(unittest.TestCase):

    def test_contexts_and_numbers(self):
        functions = [level_at, unmarked, opened, closed, paired, unpaired]
        for value in ODD_VALUES + [((),), [ONE], ((True, ()),), (ONE,) * 101, (marks(41),)]:
            for function in functions:
                if value != ():
                    self.assertRaises(InvalidContext, function, value, value)
            if value != ():
                self.assertRaises(InvalidContext, marked, value, -1, 0)
        for value in [value for value in ODD_VALUES if value not in (0, 5)] + [41, -1, (1,), "0", True, False]:
            for function in functions:
                self.assertRaises(InvalidNumber, function, (ONE,), value)
            self.assertRaises(InvalidNumber, marked, (ONE,), value, value)
        for value in ODD_VALUES + [0, 3, True, "1"]:
            self.assertRaises(InvalidNumber, marked, (ONE,), 40, value)


if __name__ == "__main__":
    unittest.main()
