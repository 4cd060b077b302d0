"""What is left of lots: [33] and [78]."""

import random
import unittest

from sharefold.errors import InvalidLot, InvalidNode, InvalidTerm, InvalidWay, NotRedex
from sharefold.residuals import left_along, left_behind
from sharefold.steps import redexes, step
from tests.lot_oracle import random_lot, slow_left
from tests.samples import A, HIGH, I, ODD_VALUES, T, W, WIDE, call, full, funs, limit_of, random_terms

# Values that are no lot of T, whose redexes are 0 and 5.
NO_LOTS = [(5, 0), (0, 0), (1,), (0, 5, 9), (0, 5, 5), (-1,), [0], [0, 5], (False,), (0, True), ("0",), ((0,),), (None,),
           (0, 5, 10 ** 100), 0, 5]


class LeftTest(unittest.TestCase):

    def test_copies_and_what_goes(self):
        self.assertEqual(left_behind(T, 0, (0, 5)), (1, 5))
        self.assertEqual(left_behind(T, 0, (0,)), ())
        self.assertEqual(left_behind(T, 0, ()), ())
        # A function without names drops all redexes of its argument; those within its body stay.
        term = call(funs(1, call(I, A)), call(I, A))
        self.assertEqual(redexes(term), [0, 2, 6])
        self.assertEqual(left_behind(term, 0, (0, 2, 6)), (0,))
        self.assertEqual(left_behind(term, 2, (0, 2, 6)), (0, 3))
        self.assertEqual(left_behind(term, 6, (0, 2)), (0, 2))

    def test_redexes_that_come_are_not_left(self):
        # Behind the step there is a redex at 0 that was none ahead.
        term = call(call(I, I), A)
        self.assertEqual(redexes(step(term, 1)), [0])
        self.assertEqual(left_behind(term, 1, (1,)), ())

    def test_like_copies_node_by_node(self):
        dice = random.Random(181)
        left = 0
        for term in random_terms(181, 300, 40):
            for node in redexes(term):
                lot = random_lot(dice, term)
                if limit_of(step, term, node) is None:
                    behind, expected = slow_left(term, node, lot)
                    self.assertEqual(left_behind(term, node, lot), expected)
                    self.assertLessEqual(set(expected), set(redexes(behind)))
                    left += len(expected) > 1
        self.assertGreater(left, 50)

    def test_along_ways(self):
        dice = random.Random(182)
        for term in random_terms(182, 150, 40):
            first, lot, way, left = term, random_lot(dice, term), (), None
            left = lot
            for _ in range(6):
                self.assertEqual(left_along(first, way, lot), left)
                found = [node for node in redexes(term) if limit_of(step, term, node) is None]
                if not found:
                    break
                way += (dice.choice(found),)
                term, left = slow_left(term, way[-1], left)

    def test_steps_within_the_bounds(self):
        # The term behind has 599 nodes, and a height of 60.
        wide = call(funs(1, full(4, ("name", 0))), full(75))
        self.assertEqual(left_behind(wide, 0, (0,)), ())
        self.assertEqual(limit_of(left_behind, WIDE, 0, (0,)), 600)
        self.assertEqual(limit_of(left_behind, HIGH, 0, ()), 60)
        self.assertEqual(limit_of(left_along, call(WIDE, HIGH), (1,), ()), 600)


class WrongArgumentsTest(unittest.TestCase):

    def test_from_left_to_right(self):
        for value in ODD_VALUES:
            if value != A:
                self.assertRaises(InvalidTerm, left_behind, value, value, value)
                self.assertRaises(InvalidTerm, left_along, value, value, value)
        for value in [None, True, False, -1, 9, 10 ** 100, "0", (0,), [0]]:
            self.assertRaises(InvalidNode, left_behind, T, value, None)
        for value in [1, 2, 3, 6, 8]:
            self.assertRaises(NotRedex, left_behind, T, value, None)
        for value in ODD_VALUES + NO_LOTS:
            if value not in ((), (0,)):
                self.assertRaises(InvalidLot, left_behind, T, 0, value)
                self.assertRaises(InvalidLot, left_along, T, (0, 1), value)
                self.assertRaises(InvalidLot, left_behind, WIDE, 0, value)
        self.assertEqual(limit_of(left_along, WIDE, (0,), None), 600)

    def test_no_ways(self):
        for value in ODD_VALUES + [(1,), (0, 0), (0, True), [0], (0,) * 201, (5, 0, 0)]:
            if value not in ((), (0,)):
                self.assertRaises(InvalidWay, left_along, T, value, None)
        self.assertEqual(left_along(call(W, W), (0,) * 200, ()), ())
        self.assertRaises(InvalidWay, left_along, call(W, W), (0,) * 201, ())

    def test_a_lot_of_the_first_term(self):
        self.assertEqual(left_along(T, (5,), (5,)), ())
        self.assertRaises(InvalidLot, left_along, T, (0,), (1,))


if __name__ == "__main__":
    unittest.main()
