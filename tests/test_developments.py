"""Developments: [34], [37] and [79], and what [3] promises of them."""

import random
import unittest

from sharefold.developments import developed, development, full_way, is_development
from sharefold.errors import InvalidLot, InvalidTerm
from sharefold.steps import redexes, step
from sharefold.ways import walk
from tests.lot_oracle import random_development, random_lot, slow_development
from tests.samples import A, HIGH, I, ODD_VALUES, T, W, WIDE, call, full, funs, limit_of, random_terms
from tests.test_residuals import NO_LOTS


def chain(many):
    """A letter behind so many calls of functions, one in the other."""
    term = A
    for _ in range(many):
        term = call(I, term)
    return term


def fivefold(many):
    """A redex that makes five copies of such a chain."""
    return call(funs(1, full(5, ("name", 0))), chain(many))


def outermost(term):
    """The development of all redexes that each time does the least one, not too long, with no redex made."""
    way = []
    while redexes(term):
        way.append(redexes(term)[0])
        term = step(term, way[-1])
    return tuple(way)


class DevelopmentTest(unittest.TestCase):

    def test_greatest_redexes_first(self):
        self.assertEqual(development(T, (0, 5)), (5, 0))
        self.assertEqual(development(T, (0,)), (0,))
        self.assertEqual(development(T, ()), ())
        self.assertEqual(developed(T, ()), T)
        self.assertEqual(developed(T, (0,)), call(call(I, A), call(I, A)))
        self.assertEqual([full_way(T), full_way(A), full_way(call(W, W))], [(5, 0), (), (0,)])

    def test_step_by_step(self):
        dice = random.Random(191)
        for term in random_terms(191, 300, 40):
            lot = random_lot(dice, term)
            if limit_of(developed, term, lot) is not None:
                continue
            way, behind = slow_development(term, lot)
            self.assertEqual((development(term, lot), developed(term, lot)), (way, behind))
            self.assertEqual(len(way), len(lot))
            self.assertEqual(walk(term, way), behind)
            self.assertIs(is_development(term, lot, way), True)
            if limit_of(full_way, term) is None:
                self.assertEqual(full_way(term), slow_development(term, tuple(redexes(term)))[0])

    def test_in_any_order_to_one_term(self):
        dice = random.Random(192)
        longer = 0
        for term in random_terms(192, 300, 40):
            lot = random_lot(dice, term)
            found = random_development(dice, term, lot)
            if found is None:
                continue
            way, behind = found
            self.assertIs(is_development(term, lot, way), True)
            self.assertEqual(developed(term, lot), behind)
            longer += len(way) > len(lot)
            if way:
                self.assertIs(is_development(term, lot, way[:-1]), False)
                self.assertIs(is_development(term, lot, list(way)), False)
            if redexes(behind):
                self.assertIs(is_development(term, lot, way + (redexes(behind)[0],)), False)
        self.assertGreater(longer, 5)

    def test_redexes_of_the_lot_alone(self):
        # Both redexes of T, or the one alone.
        self.assertIs(is_development(T, (0,), (0,)), True)
        self.assertIs(is_development(T, (0,), (5, 0)), False)
        self.assertIs(is_development(T, (0, 5), (0, 1, 2)), True)
        self.assertIs(is_development(T, (0, 5), (0, 5, 1)), True)
        # A redex that comes is none of what is left.
        self.assertIs(is_development(call(call(I, I), A), (1,), (1, 0)), False)
        self.assertIs(is_development(call(call(I, I), A), (1,), (1,)), True)

    def test_any_values(self):
        for value in ODD_VALUES + [(False,), (5, False), (True, 0), (5.0, 0), ("5", 0), (5, 0, None)]:
            self.assertIs(is_development(T, (0, 5), value), False)
            self.assertIs(is_development(A, (), value), value == ())

    def test_200_steps_and_one_more(self):
        for extra, expected in [(3, True), (4, False)]:
            term = call(call(fivefold(20), fivefold(19)), chain(extra))
            way = outermost(term)
            self.assertEqual(len(way), 197 + extra)
            self.assertIs(is_development(term, tuple(redexes(term)), way), expected)
            self.assertEqual(len(full_way(term)), 41 + extra)

    def test_a_lot_has_199_redexes_at_most(self):
        term = call(call(chain(50), chain(50)), call(chain(50), chain(47)))
        self.assertEqual(len(full_way(term)), 197)


class TooGreatTest(unittest.TestCase):

    def test_which_comes_first(self):
        for term, lot, limit in [(WIDE, (0,), 600), (HIGH, (0,), 60), (call(WIDE, HIGH), None, 60),
                                 (call(HIGH, WIDE), None, 600)]:
            lot = tuple(redexes(term)) if lot is None else lot
            self.assertEqual([limit_of(function, term, lot) for function in [development, developed]], [limit] * 2)
            self.assertEqual(limit_of(full_way, term), limit)
            self.assertIs(is_development(term, lot, lot[::-1]), False)

    def test_within_the_bounds(self):
        # 599 nodes behind the step, and 601.
        for leaves, limit in [(60, None), (61, 600)]:
            term = call(funs(1, full(5, ("name", 0))), full(leaves))
            self.assertEqual(limit_of(development, term, (0,)), limit)
            self.assertIs(is_development(term, (0,), (0,)), limit is None)

    def test_great_on_the_way_alone(self):
        # From the least redex on it is too great; from the greatest one on it is not.
        term = call(funs(1, full(5, ("name", 0))), call(funs(1, A), full(70)))
        self.assertEqual(developed(term, (0, tuple(redexes(term))[1])), full(5))
        self.assertEqual(limit_of(developed, term, (0,)), 600)
        self.assertIs(is_development(term, tuple(redexes(term)), (0,) + tuple(range(5))), False)


class WrongArgumentsTest(unittest.TestCase):

    def test_terms_and_lots(self):
        for value in ODD_VALUES:
            if value != A:
                for function in [development, developed]:
                    self.assertRaises(InvalidTerm, function, value, value)
                self.assertRaises(InvalidTerm, is_development, value, value, value)
                self.assertRaises(InvalidTerm, full_way, value)
        for value in ODD_VALUES + NO_LOTS:
            if value not in ((), (0,)):
                for function in [development, developed]:
                    self.assertRaises(InvalidLot, function, T, value)
                self.assertRaises(InvalidLot, is_development, T, value, (0,))
                self.assertRaises(InvalidLot, development, WIDE, value)


if __name__ == "__main__":
    unittest.main()
