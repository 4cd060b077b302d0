"""Degrees, and ways by degrees: [31] and [76], and what [3] promises of them."""

import random
import unittest

from sharefold.degrees import degree_counts, degree_of, degree_redex, degree_way
from sharefold.errors import InvalidNode, InvalidNumber, InvalidTerm, NotRedex, NoTypes
from sharefold.steps import is_normal, redexes, step
from sharefold.typedsteps import types_behind
from sharefold.types import type_height
from sharefold.typings import has_types, types_of
from sharefold.ways import walk
from tests.samples import A, B, HIGH, I, ODD_VALUES, T, W, WIDE, call, calls, funs, limit_of, random_terms
from tests.test_typedsteps import HIGH_TYPED, WIDE_TYPED
from tests.test_typings import doubling
from tests.type_oracle import slow_types

GT = call(call(I, I), call(I, A))
N = ("name", 0)


def height(own):
    return 0 if own[0] == "open" else 1 + max(height(own[1]), height(own[2]))


def slow_way(term, types, most):
    """The way by degrees, with the types behind each step."""
    way, degrees = (), ()
    while len(way) < most and redexes(term):
        degree, node = max([(type_height(types[own + 1]), own) for own in redexes(term)])
        if limit_of(step, term, node) is not None:
            break
        types = types_behind(term, types, node)
        term = step(term, node)
        way, degrees = way + (node,), degrees + (degree,)
    return way, degrees, term


class DegreesTest(unittest.TestCase):

    def test_heights_of_types(self):
        for term in random_terms(321, 300, 25) + [GT, A, I, doubling(5)]:
            types = slow_types(term)
            if types is None:
                continue
            expected = [(height(types[node + 1]), node) for node in redexes(term)]
            self.assertEqual([(degree_of(term, node), node) for _, node in expected], expected)
            self.assertEqual(degree_redex(term), max(expected)[1] if expected else None)
            degrees = [degree for degree, _ in expected]
            self.assertEqual(degree_counts(term), tuple([(own, degrees.count(own)) for own in sorted(set(degrees))]))

    def test_types_as_great_as_they_are(self):
        # The first function of so many has a type of a size of 2 ** (many + 1) - 1.
        for many in [9, 50]:
            self.assertEqual(limit_of(types_of, doubling(many)), 300)
            self.assertEqual(degree_counts(doubling(many)), ((many, 1),))
            self.assertEqual(degree_of(doubling(many), many - 2), many)
            way, degrees, behind = degree_way(doubling(many), 200)
            self.assertEqual((way, degrees, behind),
                             (tuple(range(many - 2, -1, -1)), tuple(range(many, 1, -1)), I))
        high = call(*[A] * 30, funs(31, B))
        self.assertEqual(limit_of(types_of, high), 60)
        self.assertEqual(degree_counts(call(I, high)), ((1, 1),))

    def test_the_greatest_redex_of_those_of_the_greatest_degree(self):
        term = call(A, call(call(I, I), B), call(call(I, I), B))
        self.assertEqual(degree_counts(term), ((2, 2),))
        self.assertEqual(degree_redex(term), redexes(term)[1])
        self.assertEqual(degree_way(term, 1), ((redexes(term)[1],), (2,), step(term, redexes(term)[1])))
        self.assertEqual(degree_way(term, 9)[1], (2, 2, 1, 1))


class WayTest(unittest.TestCase):

    def test_step_by_step(self):
        dice = random.Random(322)
        longer = 0
        for term in random_terms(322, 900, 30):
            if limit_of(types_of, term) is not None or not has_types(term):
                continue
            most = dice.randrange(12)
            told = degree_way(term, most)
            self.assertEqual(told, slow_way(term, types_of(term)[1], most))
            self.assertEqual(walk(term, told[0]), told[2])
            longer += len(told[0]) > 3
        self.assertGreater(longer, 30)

    def test_as_many_steps_of_a_degree_as_it_has_redexes(self):
        tried = 0
        for term in random_terms(323, 600, 35):
            if limit_of(has_types, term) is not None or not has_types(term):
                continue
            way, degrees, behind = degree_way(term, 200)
            self.assertEqual(list(degrees), sorted(degrees, reverse=True))
            if not is_normal(behind):
                continue
            ahead = term
            types = types_of(term)[1] if limit_of(types_of, term) is None else None
            for place, node in enumerate(way):
                if types is None:
                    break
                if place == 0 or degrees[place] < degrees[place - 1]:
                    many = [type_height(types[own + 1]) for own in redexes(ahead)].count(degrees[place])
                    self.assertEqual(degrees.count(degrees[place]), many)
                    tried += many > 1
                types = types_behind(ahead, types, node)
                ahead = step(ahead, node)
        self.assertGreater(tried, 20)

    def test_of_fewer_steps_and_of_none(self):
        self.assertEqual(degree_way(GT, 0), ((), (), GT))
        self.assertEqual(degree_way(GT, 2), ((1, 3), (2, 1), call(I, A)))
        self.assertEqual(degree_way(GT, 200), ((1, 3, 0), (2, 1, 1), A))
        self.assertEqual(degree_way(A, 200), ((), (), A))
        self.assertEqual([degree_redex(A), degree_counts(A)], [None, ()])

    def test_ahead_of_steps_that_are_too_great(self):
        for term in [WIDE_TYPED, HIGH_TYPED]:
            self.assertEqual(degree_way(term, 9), ((), (), term))
            self.assertEqual(degree_redex(term), 0)
            # An argument with a greater redex of a greater degree ahead of it.
            outer = call(A, term, call(call(I, I), B))
            way, degrees, behind = degree_way(outer, 9)
            self.assertEqual(degrees[0], 2)
            self.assertEqual(walk(outer, way), behind)
            self.assertIs(is_normal(behind), False)

    def test_types_are_kept_and_not_told_anew(self):
        # Behind the first step the general type of the other function would be lower than that which it has.
        term = call(funs(1, call(funs(1, N), N)), I)
        self.assertEqual(degree_way(term, 9)[1], tuple(sorted(degree_way(term, 9)[1], reverse=True)))
        term = call(funs(1, funs(1, N)), I, call(I, calls(3, B)))
        self.assertEqual(degree_way(term, 9), slow_way(term, types_of(term)[1], 9))


class WrongArgumentsTest(unittest.TestCase):

    def test_no_types_behind_the_errors_of_arguments(self):
        for term in [W, T, call(W, W), WIDE, call(W, HIGH)]:
            self.assertRaises(NoTypes, degree_counts, term)
            self.assertRaises(NoTypes, degree_redex, term)
            self.assertRaises(NoTypes, degree_way, term, 0)
            self.assertRaises(InvalidNumber, degree_way, term, 201)
            self.assertRaises(InvalidNode, degree_of, term, 600)
            self.assertRaises(NotRedex, degree_of, term, 1)
        self.assertRaises(NoTypes, degree_of, T, 0)
        self.assertRaises(NoTypes, degree_of, WIDE, 0)

    def test_terms_nodes_and_numbers(self):
        for value in ODD_VALUES:
            if value != A:
                for function in [degree_counts, degree_redex]:
                    self.assertRaises(InvalidTerm, function, value)
                for function in [degree_of, degree_way]:
                    self.assertRaises(InvalidTerm, function, value, value)
        for value in [None, True, False, -1, 10, 10 ** 100, "0", (0,), [0]]:
            self.assertRaises(InvalidNode, degree_of, GT, value)
        for value in [None, True, False, -1, 201, "0", (0,), [0]]:
            self.assertRaises(InvalidNumber, degree_way, GT, value)
        for value in [2, 3, 4, 5, 7, 8, 9]:
            self.assertRaises(NotRedex, degree_of, GT, value)


if __name__ == "__main__":
    unittest.main()
