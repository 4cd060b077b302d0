"""Standard ways: [36], [37] and [81], and what [3] promises of them."""

import random
import unittest

from sharefold.errors import InvalidTerm, InvalidWay
from sharefold.standards import first_done, first_unsorted, is_standard, standard_way
from sharefold.steps import is_normal, leftmost, redexes, step
from sharefold.ways import leftmost_way, walk
from tests.samples import A, HIGH, I, ODD_VALUES, T, W, WIDE, call, full, funs, limit_of, random_terms
from tests.test_developments import chain
from tests.test_meets import KNOT, TWO_KNOTS
from tests.way_oracle import random_way, slow_done, slow_standard_way, slow_triples, told_or_limit


class SortedTest(unittest.TestCase):

    def test_all_triples(self):
        dice = random.Random(351)
        several = 0
        for term in random_terms(351, 500, 40):
            way = random_way(dice, term, 8)
            triples = sorted(slow_triples(term, way), key=lambda row: (row[1], row))
            self.assertEqual(first_unsorted(term, way), triples[0] if triples else None)
            self.assertIs(is_standard(term, way), not triples)
            several += len(triples) > 1
        self.assertGreater(several, 40)

    def test_the_least_later_place_and_of_these_the_least(self):
        term = call(call(I, A), call(call(I, A), call(I, A)))
        one, two, three = redexes(term)
        way = (three, two, one)
        self.assertEqual(walk(term, way), call(A, call(A, A)))
        self.assertEqual(first_unsorted(term, way), (0, 1, two))
        way = (two, three - 3, one)
        self.assertEqual(first_unsorted(term, way), (0, 2, one))
        self.assertEqual(list(slow_triples(term, way)), [(0, 2, one), (1, 2, one)])

    def test_redexes_that_come_later_are_sorted(self):
        # The redex at 0 is made by the step at 1.
        self.assertIs(is_standard(call(I, I, A), (1, 0)), True)
        self.assertIs(is_standard(T, ()), True)
        self.assertIs(is_standard(A, ()), True)


class DoneTest(unittest.TestCase):

    def test_all_done(self):
        dice = random.Random(352)
        for term in random_terms(352, 400, 40):
            way = random_way(dice, term, 8)
            done = slow_done(term, way)
            self.assertEqual(first_done(term, way), done[0] if done else None)
            self.assertIs(first_done(term, way) is None, way == ())

    def test_one_by_one(self):
        self.assertEqual([first_done(T, ()), first_done(T, (5,)), first_done(T, (0,)), first_done(T, (0, 5))],
                         [None, 5, 0, 0])
        self.assertEqual(first_done(A, ()), None)


class StandardTest(unittest.TestCase):

    def test_to_the_same_term(self):
        dice = random.Random(353)
        longer = 0
        for term in random_terms(353, 400, 40):
            way = random_way(dice, term, 8)
            told = told_or_limit(standard_way, term, way)
            self.assertEqual(told, told_or_limit(slow_standard_way, term, way))
            if told[:1] == ("limit",):
                continue
            self.assertEqual(walk(term, told), walk(term, way))
            self.assertIs(is_standard(term, told), True)
            self.assertEqual(standard_way(term, told), told)
            self.assertEqual(told == way, is_standard(term, way))
            longer += len(told) > len(way)
        self.assertGreater(longer, 15)

    def test_a_way_to_a_normal_term(self):
        dice = random.Random(354)
        ended = 0
        for term in random_terms(354, 600, 30):
            way, behind = (), term
            while redexes(behind) and len(way) < 30:
                node = dice.choice(redexes(behind))
                if limit_of(step, behind, node) is not None:
                    break
                way, behind = way + (node,), step(behind, node)
            if is_normal(behind) and limit_of(standard_way, term, way) is None:
                self.assertEqual(standard_way(term, way), leftmost_way(term, 200)[0])
                self.assertEqual(leftmost_way(term, 200)[1], behind)
                ended += len(way) > 1
        self.assertGreater(ended, 100)

    def test_one_by_one(self):
        self.assertEqual([standard_way(T, ()), standard_way(T, (0,)), standard_way(T, (5, 0)), standard_way(T, (0, 5, 1))],
                         [(), (0,), (0, 1, 2), (0, 1, 2)])
        self.assertEqual(standard_way(A, ()), ())
        # What goes in the end is not done.
        self.assertEqual(standard_way(call(funs(1, A), chain(4)), (3, 3, 3, 0)), (0,))

    def test_200_steps_and_one_more(self):
        self.assertEqual(standard_way(KNOT, (0,) * 200), (0,) * 200)
        inner = redexes(TWO_KNOTS)[1]
        behind = redexes(call(KNOT, KNOT))
        for way, many in [((inner,) * 99 + (0,), 199), ((inner,) * 99 + (0, behind[1]), 200), ((inner,) * 100 + (0,), 201),
                          ((inner,) * 99 + (0, *behind[::-1]), 201)]:
            self.assertEqual(limit_of(standard_way, TWO_KNOTS, way), None if many <= 200 else 200)
            if many <= 200:
                told = standard_way(TWO_KNOTS, way)
                self.assertEqual(len(told), many)
                self.assertEqual(told[0], 0)
                self.assertEqual(walk(TWO_KNOTS, told), walk(TWO_KNOTS, way))

    def test_steps_that_are_too_great(self):
        # Doing the lesser redex first would make too many nodes, or too high a term, on the way alone.
        term = call(funs(1, full(5, ("name", 0))), call(funs(1, A), full(150)))
        inner = redexes(term)[1]
        self.assertEqual(walk(term, (inner, 0)), full(5))
        self.assertEqual(limit_of(standard_way, term, (inner, 0)), 600)
        self.assertEqual(limit_of(standard_way, HIGH, (0,)), 60)
        term = call(HIGH[1], call(funs(1, A), HIGH[2]))
        inner = redexes(term)[1]
        self.assertEqual(limit_of(walk, term, (inner, 0)), None)
        self.assertEqual(limit_of(standard_way, term, (inner, 0)), 60)
        self.assertIs(is_standard(term, (inner, 0)), False)

    def test_great_terms(self):
        term = call(call(chain(20), chain(20)), call(chain(20), chain(20)))
        way = tuple(redexes(term)[::-1])
        told = standard_way(term, way)
        self.assertEqual(told, leftmost_way(term, 200)[0])
        self.assertEqual(leftmost(walk(term, told)), None)


class WrongArgumentsTest(unittest.TestCase):

    FUNCTIONS = [first_unsorted, is_standard, first_done, standard_way]

    def test_terms_and_ways(self):
        for function in self.FUNCTIONS:
            for value in ODD_VALUES:
                if value != A:
                    self.assertRaises(InvalidTerm, function, value, value)
            for value in ODD_VALUES + [(1,), (0, 0), (0, True), [0], (0,) * 201, (5, 0, 0), (False,)]:
                if value not in ((), (0,)):
                    self.assertRaises(InvalidWay, function, T, value)
            self.assertEqual(limit_of(function, WIDE, (0,)), 600)
            self.assertEqual(limit_of(function, HIGH, (0,)), 60)
            self.assertEqual(limit_of(function, call(WIDE, W), (1, None)), 600)
            self.assertRaises(InvalidWay, function, W, (0,))


if __name__ == "__main__":
    unittest.main()
