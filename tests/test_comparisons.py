"""Terms that are near, and comparisons: [44] and [90], and what [3] promises of them."""

import random
import unittest

from sharefold.comparisons import compared, reached_within, takes_compared, way_within
from sharefold.errors import InvalidNumber, InvalidTerm
from sharefold.steps import is_normal, redexes, step
from sharefold.ways import is_way, leftmost_way, walk
from tests.samples import A, B, HIGH, I, ODD_VALUES, T, W, WIDE, call, calls, full, funs, limit_of, random_terms
from tests.test_developments import chain
from tests.test_meets import GROWING, KNOT
from tests.way_oracle import random_way

AA = call(A, A)


def slow_layers(term, most):
    """For each number of steps the set of the terms behind that many."""
    layers = [{term}]
    for _ in range(most):
        behind = set()
        for own in layers[-1]:
            for node in redexes(own):
                if limit_of(step, own, node) is None:
                    behind.add(step(own, node))
        layers.append(behind)
    return layers


class ReachedTest(unittest.TestCase):

    def test_all_ways(self):
        dice = random.Random(441)
        many = 0
        for term in random_terms(441, 200, 30):
            most = dice.randrange(5)
            layers = slow_layers(term, most)
            expected = set().union(*layers)
            self.assertEqual(limit_of(reached_within, term, most), None if len(expected) <= 300 else 300)
            if len(expected) <= 300:
                told = reached_within(term, most)
                self.assertEqual((type(told), told), (list, sorted(expected)))
                many += len(told) > 10
        self.assertGreater(many, 30)

    def test_steps_of_0_to_6(self):
        self.assertEqual([len(reached_within(chain(9), most)) for most in range(7)], [1, 2, 3, 4, 5, 6, 7])
        self.assertEqual([reached_within(A, most) for most in range(7)], [[A]] * 7)
        self.assertEqual(reached_within(KNOT, 6), [KNOT])
        self.assertEqual(reached_within(T, 0), [T])

    def test_ascending(self):
        term = call(call(chain(1), funs(1, ("name", 0))), call(I, B))
        told = reached_within(term, 6)
        self.assertEqual(told, sorted(told))
        self.assertEqual(len(told), len(set(told)))

    def test_steps_that_are_too_great_are_none_of_a_way(self):
        for term in [WIDE, HIGH]:
            self.assertEqual(reached_within(term, 6), [term])
            both = call(term, call(I, A))
            self.assertEqual(reached_within(both, 6), sorted([both, call(term, A)]))
            self.assertEqual(way_within(both, call(term, A), 6), (redexes(both)[1],))

    def test_300_terms_and_more(self):
        # So many redexes that have nothing to do with each other, each of them done or not.
        self.assertEqual(len(reached_within(full(8, chain(1)), 6)), 247)
        self.assertEqual(limit_of(reached_within, full(9, chain(1)), 6), 300)
        # Chains, each made shorter by some of the steps.
        for rows, most, many in [((1, 1, 2, 2, 2, 3), 6, 299), ((1, 1, 1, 2, 4, 4), 6, 300), ((1, 1, 4, 5, 5, 5), 5, 300),
                                 ((1, 1, 5, 5, 5, 5), 5, 301), ((1, 1, 1, 3, 3, 3), 6, 302)]:
            term = call(A, *[chain(own) for own in rows])
            self.assertEqual(self.count(rows, most), many)
            self.assertEqual(limit_of(reached_within, term, most), None if many <= 300 else 300)
            self.assertEqual(limit_of(way_within, term, term, most), None if many <= 300 else 300)
            if many <= 300:
                self.assertEqual(len(reached_within(term, most)), many)

    def count(self, rows, most):
        """In how many ways so many chains can be made shorter by at most so many steps in all."""
        counts = [1] + [0] * most
        for own in rows:
            counts = [sum(counts[total - less] for less in range(min(own, total) + 1)) for total in range(most + 1)]
        return sum(counts)


class WayWithinTest(unittest.TestCase):

    def test_of_the_fewest_steps(self):
        dice = random.Random(442)
        found = 0
        for term in random_terms(442, 150, 24):
            most = dice.randrange(5)
            layers = slow_layers(term, most)
            if len(set().union(*layers)) > 300:
                self.assertEqual(limit_of(way_within, term, A, most), 300)
                continue
            for other in sorted(set().union(*layers))[:12] + [AA, call(term, A) if limit_of(redexes, term) is None else A]:
                least = [many for many, layer in enumerate(layers) if other in layer]
                way = way_within(term, other, most) if limit_of(redexes, other) is None else None
                if not least:
                    self.assertIsNone(way)
                    continue
                self.assertEqual(len(way), least[0])
                self.assertEqual(walk(term, way), other)
                found += len(way) > 1
        self.assertGreater(found, 60)

    def test_one_by_one(self):
        self.assertEqual([way_within(T, T, 0), way_within(T, AA, 2), way_within(T, AA, 1), way_within(T, A, 6)],
                         [(), (5, 0), None, None])
        self.assertEqual(way_within(KNOT, KNOT, 6), ())
        self.assertEqual(way_within(call(funs(1, B), chain(3)), B, 6), (0,))
        # Either of both ways.
        self.assertIn(way_within(call(chain(1), chain(1)), AA, 6), [(1, 2), (5, 1)])


class ComparedTest(unittest.TestCase):

    def test_both_sorts_and_open_ones(self):
        counts = {"one": 0, "unlike": 0, "open": 0}
        dice = random.Random(443)
        for term in random_terms(443, 300, 30):
            other = dice.choice([walk(term, random_way(dice, term, 4)), A, I, AA, random_terms(dice.randrange(999), 1, 20)[0]])
            most = dice.randrange(30)
            told = compared(term, other, most)
            one, two = leftmost_way(term, most)[1], leftmost_way(other, most)[1]
            if not is_normal(one) or not is_normal(two):
                self.assertEqual(told, ("open",))
                self.assertIs(takes_compared(term, other, told), False)
            else:
                self.assertEqual(told[0], "one" if one == two else "unlike")
                self.assertEqual(walk(term, told[1]) == walk(other, told[2]), one == two)
                self.assertIs(takes_compared(term, other, told), True)
                self.assertIs(takes_compared(other, term, (told[0], told[2], told[1])), True)
                # For no two terms both are taken.
                self.assertIs(takes_compared(term, other, ("unlike" if one == two else "one",) + told[1:]), False)
            counts[told[0]] += 1
        self.assertGreater(min(counts.values()), 30)

    def test_steps_at_most(self):
        self.assertEqual(compared(T, AA, 2), ("open",))
        self.assertEqual(compared(AA, T, 2), ("open",))
        self.assertEqual(compared(T, AA, 3)[0], "one")
        self.assertEqual(compared(A, A, 0), ("one", (), ()))
        self.assertEqual(compared(A, B, 0), ("unlike", (), ()))
        self.assertEqual(compared(KNOT, KNOT, 200), ("open",))
        # Leftmost ways end ahead of steps that are too great.
        for term in [WIDE, HIGH, GROWING]:
            self.assertEqual(compared(term, A, 200), ("open",))
            self.assertEqual(compared(A, term, 200), ("open",))
        term = call(funs(1, A), KNOT)
        self.assertEqual(compared(term, A, 1)[0], "one")

    def test_ways_to_terms_that_are_not_normal(self):
        self.assertIs(takes_compared(T, T, ("one", (), ())), True)
        self.assertIs(takes_compared(T, AA, ("unlike", (), ())), False)
        self.assertIs(takes_compared(T, B, ("unlike", (), ())), False)
        self.assertIs(takes_compared(T, B, ("unlike", (5, 0), ())), True)
        self.assertIs(takes_compared(B, T, ("unlike", (), (5,))), False)
        self.assertIs(takes_compared(T, T, ("one", (5,), (0,))), False)
        self.assertIs(takes_compared(T, T, ("one", (0, 1), (0, 1))), True)
        self.assertIs(takes_compared(KNOT, KNOT, ("one", (0,) * 200, ())), True)
        self.assertIs(takes_compared(KNOT, KNOT, ("one", (0,) * 201, ())), False)
        self.assertIs(takes_compared(WIDE, WIDE, ("one", (0,), (0,))), False)
        self.assertIs(takes_compared(WIDE, WIDE, ("one", (), ())), True)

    def test_spoilt_at_each_place(self):
        told = ("one", (0, 1, 2), ())
        self.assertIs(takes_compared(T, AA, told), True)
        for value in [("one", (0, 1), ()), ("one", (0, 1, 2, 0), ()), ("one", (), ()), ("one", (0, 1, 2), (0,)), ("One", (0, 1, 2), ()),
                      ("open", (0, 1, 2), ()), ("unlike", (0, 1, 2), ()), ("one", [0, 1, 2], ()), ("one", (0, 1, 2), []),
                      ("one", (0, True, 2), ()), ("one", (False, 1, 2), ()), ("one", (0, 1, 2)), ("one", (0, 1, 2), (), ()),
                      ["one", (0, 1, 2), ()], ("open",), (1, (0, 1, 2), ()), (None, (0, 1, 2), ()), ("one", None, ()),
                      ("one", (0, 1, 2), None), (("one",), (0, 1, 2), ()), (True, (0, 1, 2), ())]:
            self.assertIs(takes_compared(T, AA, value), False, value)
        for value in ODD_VALUES:
            self.assertIs(takes_compared(T, AA, value), False)
            self.assertIs(takes_compared(A, A, ("one", value, ())), value == ())
            self.assertIs(takes_compared(A, A, ("one", (), value)), value == ())
            self.assertIs(takes_compared(A, A, (value, (), ())), False)

    def test_of_ways_by_chance(self):
        dice = random.Random(444)
        for term in random_terms(444, 150, 24):
            other = walk(term, random_way(dice, term, 3))
            for _ in range(4):
                one, two = random_way(dice, term, 4), random_way(dice, other, 4)
                same = walk(term, one) == walk(other, two)
                ends = is_normal(walk(term, one)) and is_normal(walk(other, two))
                self.assertIs(takes_compared(term, other, ("one", one, two)), same)
                self.assertIs(takes_compared(term, other, ("unlike", one, two)), not same and ends)
                # What comes of one term never comes to unlike normal terms.
                self.assertIs(takes_compared(term, other, ("unlike", one, two)), False)


class WrongArgumentsTest(unittest.TestCase):

    def test_from_left_to_right(self):
        for value in ODD_VALUES:
            if value != A:
                self.assertRaises(InvalidTerm, reached_within, value, None)
                for function in [way_within, compared, takes_compared]:
                    self.assertRaises(InvalidTerm, function, value, value, None)
                    self.assertRaises(InvalidTerm, function, A, value, None)
                    self.assertRaises(InvalidTerm, function, value, A, 0)
        for value in [None, True, False, -1, 7, 10 ** 100, "0", (0,), [0]]:
            self.assertRaises(InvalidNumber, reached_within, full(9, chain(1)), value)
            self.assertRaises(InvalidNumber, way_within, full(9, chain(1)), A, value)
        for value in [None, True, False, -1, 201, 10 ** 100, "0", (0,), [0]]:
            self.assertRaises(InvalidNumber, compared, T, T, value)

    def test_too_many_though_the_way_is_found(self):
        term = full(9, chain(1))
        self.assertIs(is_way(term, (redexes(term)[0],)), True)
        self.assertEqual(limit_of(way_within, term, step(term, redexes(term)[0]), 6), 300)
        self.assertEqual(limit_of(way_within, term, term, 6), 300)
        self.assertEqual(way_within(term, term, 1), ())
        self.assertEqual(way_within(term, calls(2, A), 1), None)
        self.assertEqual(way_within(term, W, 1), None)


if __name__ == "__main__":
    unittest.main()
