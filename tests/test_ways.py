"""Ways: [6] and [47]."""

import random
import unittest

from sharefold.errors import InvalidNumber, InvalidTerm, InvalidWay, TooMany
from sharefold.steps import leftmost, redexes, step
from sharefold.ways import is_way, leftmost_way, normal_form, terms_along, walk
from tests.samples import A, HIGH, I, ODD_VALUES, T, W, WIDE, call, funs, random_terms

LOOP = call(W, W)


class WaysTest(unittest.TestCase):

    def test_ways(self):
        for way in [(), (0,), (5,), (5, 0), (0, 1, 2), (0, 5, 1)]:
            self.assertIs(is_way(T, way), True, way)

    def test_no_ways(self):
        for way in [(1,), (9,), (-1,), (0, 0), (5, 5), (5, 0, 0), (True,), (False,), (None,), ("0",), ((0,),), [0], [],
                    0, None, "", (5, False)]:
            self.assertIs(is_way(T, way), False, way)
            self.assertRaises(InvalidWay, walk, T, way)
            self.assertRaises(InvalidWay, terms_along, T, way)

    def test_odd_values(self):
        for value in ODD_VALUES:
            if value not in [(), (0,)]:
                self.assertIs(is_way(T, value), False, value)
                self.assertRaises(InvalidWay, walk, T, value)

    def test_200_steps_and_more(self):
        self.assertIs(is_way(LOOP, (0,) * 200), True)
        self.assertEqual(walk(LOOP, (0,) * 200), LOOP)
        self.assertEqual(len(terms_along(LOOP, (0,) * 200)), 201)
        self.assertIs(is_way(LOOP, (0,) * 201), False)
        self.assertRaises(InvalidWay, walk, LOOP, (0,) * 201)

    def test_terms_along(self):
        self.assertEqual(terms_along(T, ()), [T])
        self.assertEqual(terms_along(T, (5, 0)), [T, call(W, A), call(A, A)])
        dice = random.Random(5)
        for term in random_terms(5, 100, 30):
            way, terms = [], [term]
            while redexes(terms[-1]) and len(way) < 8:
                node = dice.choice(redexes(terms[-1]))
                try:
                    terms.append(step(terms[-1], node))
                except TooMany:
                    break
                way.append(node)
            self.assertEqual(terms_along(term, tuple(way)), terms)
            self.assertEqual(walk(term, tuple(way)), terms[-1])


class TooGreatTest(unittest.TestCase):

    def assert_too_many(self, limit, term, way):
        self.assertIs(is_way(term, way), False)
        for function in [walk, terms_along]:
            with self.assertRaises(TooMany) as caught:
                function(term, way)
            self.assertEqual(caught.exception.limit, limit)

    def test_limits(self):
        self.assert_too_many(600, WIDE, (0,))
        self.assert_too_many(60, HIGH, (0,))
        self.assert_too_many(60, call(I, HIGH), (0, 0))

    def test_what_stands_behind_is_no_matter(self):
        self.assert_too_many(600, WIDE, (0, None))
        self.assert_too_many(60, HIGH, (0, -1, "x"))
        self.assert_too_many(60, HIGH, (0,) * 200)

    def test_what_stands_ahead_matters(self):
        self.assertRaises(InvalidWay, walk, HIGH, (1, 0))
        self.assertRaises(InvalidWay, walk, HIGH, (None, 0))
        self.assertRaises(InvalidWay, walk, HIGH, (False,))
        self.assertRaises(InvalidWay, walk, HIGH, (0,) * 201)
        self.assertRaises(InvalidWay, walk, HIGH, [0])


class LeftmostWayTest(unittest.TestCase):

    def test_ends(self):
        self.assertEqual(leftmost_way(T, 0), ((), T))
        self.assertEqual(leftmost_way(T, 2), ((0, 1), call(A, call(I, A))))
        self.assertEqual(leftmost_way(T, 3), ((0, 1, 2), call(A, A)))
        self.assertEqual(leftmost_way(T, 200), ((0, 1, 2), call(A, A)))
        self.assertEqual(leftmost_way(A, 5), ((), A))
        self.assertEqual(leftmost_way(LOOP, 200), ((0,) * 200, LOOP))

    def test_ends_ahead_of_what_would_be_too_great(self):
        self.assertEqual(leftmost_way(WIDE, 9), ((), WIDE))
        self.assertEqual(leftmost_way(call(I, HIGH), 9), ((0,), HIGH))

    def test_leftmost_each_time(self):
        for term in random_terms(6, 100, 30):
            way, behind = leftmost_way(term, 10)
            terms = terms_along(term, way)
            self.assertEqual([leftmost(own) for own in terms[:-1]], list(way))
            self.assertEqual(terms[-1], behind)
            self.assertTrue(len(way) == 10 or leftmost(behind) is None)

    def test_normal_form(self):
        self.assertEqual([normal_form(T, most) for most in [0, 1, 2, 3, 200]], [None, None, None, call(A, A), call(A, A)])
        self.assertEqual(normal_form(A, 0), A)
        self.assertIsNone(normal_form(LOOP, 200))
        self.assertIsNone(normal_form(WIDE, 200))
        # Leftmost first, what is not needed is not done.
        self.assertEqual(normal_form(call(funs(1, A), LOOP), 1), A)


class WrongArgumentsTest(unittest.TestCase):

    def test_no_term_comes_first(self):
        for value in ODD_VALUES:
            if value == A:
                continue
            for function in [is_way, walk, terms_along, leftmost_way, normal_form]:
                self.assertRaises(InvalidTerm, function, value, "x")

    def test_no_number(self):
        for function in [leftmost_way, normal_form]:
            for most in [-1, 201, True, False, None, "1", (1,), 10 ** 100]:
                self.assertRaises(InvalidNumber, function, T, most)


if __name__ == "__main__":
    unittest.main()
