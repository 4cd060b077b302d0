"""Full steps that overtake ways: [34], [37] and [82], and what [3] promises of them."""

import random
import unittest

from sharefold.developments import developed
from sharefold.errors import InvalidNumber, InvalidTerm, InvalidWay
from sharefold.overtakes import full_steps, overtaking, takes_overtaking
from sharefold.steps import redexes
from sharefold.ways import is_way, terms_along, walk
from tests.samples import A, HIGH, I, ODD_VALUES, T, W, WIDE, call, full, funs, limit_of, random_terms
from tests.test_meets import KNOT
from tests.way_oracle import random_way, slow_left_row, slow_row_way, told_or_limit


def slow_full(term, many):
    terms, row = [term], []
    for _ in range(many):
        row.append(tuple(redexes(terms[-1])))
        terms.append(developed(terms[-1], row[-1]))
    return terms, row


def slow_overtaking(term, way):
    row = slow_full(term, len(way))[1]
    for ahead, node in zip(terms_along(term, way), way):
        row, _ = slow_left_row(ahead, row, (node,))
    return slow_row_way(walk(term, way), row)


class FullStepsTest(unittest.TestCase):

    def test_all_redexes_at_once(self):
        dice = random.Random(361)
        for term in random_terms(361, 200, 40):
            many = dice.randrange(6)
            if limit_of(full_steps, term, many) is None:
                told = full_steps(term, many)
                self.assertEqual(told, slow_full(term, many)[0])
                self.assertEqual((type(told), len(told), told[0]), (list, many + 1, term))

    def test_none_and_normal_terms(self):
        self.assertEqual(full_steps(T, 0), [T])
        self.assertEqual(full_steps(WIDE, 0), [WIDE])
        self.assertEqual(full_steps(A, 20), [A] * 21)
        self.assertEqual(full_steps(KNOT, 20), [KNOT] * 21)
        self.assertEqual(full_steps(T, 3), [T] + [call(A, A)] * 3)
        self.assertEqual(full_steps(call(I, I, I, A), 4), [call(I, I, I, A), call(I, I, A), call(I, A), A, A])

    def test_too_great(self):
        self.assertEqual(limit_of(full_steps, WIDE, 1), 600)
        self.assertEqual(limit_of(full_steps, HIGH, 20), 60)
        self.assertEqual(limit_of(full_steps, call(WIDE, HIGH), 1), 60)


class OvertakingTest(unittest.TestCase):

    def test_behind_as_many_full_steps(self):
        dice = random.Random(362)
        told = 0
        for term in random_terms(362, 500, 40):
            way = random_way(dice, term, 8)
            found = told_or_limit(overtaking, term, way)
            expected = told_or_limit(slow_overtaking, term, way)
            self.assertEqual(found[:1] == ("limit",), expected[:1] == ("limit",))
            if found[:1] == ("limit",):
                self.assertEqual(found, expected)
                continue
            self.assertEqual(walk(walk(term, way), found), full_steps(term, len(way))[-1])
            self.assertIs(takes_overtaking(term, way, found), True)
            for spoilt in [found[:-1], found + (0,), found + (0,) * 3, list(found), None]:
                expected = is_way(walk(term, way), spoilt)
                expected = expected and walk(walk(term, way), spoilt) == full_steps(term, len(way))[-1]
                self.assertIs(takes_overtaking(term, way, spoilt), expected)
            told += len(found) > 0
        self.assertGreater(told, 100)

    def test_one_by_one(self):
        self.assertEqual(overtaking(T, ()), ())
        self.assertEqual(walk(walk(T, (0,)), overtaking(T, (0,))), call(A, A))
        self.assertEqual(overtaking(T, (5, 0)), ())
        # Any way will do.
        for way in [(1, 2), (5, 1)]:
            self.assertIs(takes_overtaking(T, (0,), way), True)
        for way in [(), (1,), (1, 1), (2,), [1, 2], (True, 2), (1, 2, 0)]:
            self.assertIs(takes_overtaking(T, (0,), way), False)
        for value in ODD_VALUES:
            self.assertIs(takes_overtaking(T, (0,), value), False)
            self.assertIs(takes_overtaking(A, (), value), value == ())

    def test_20_steps_and_21(self):
        self.assertEqual(overtaking(KNOT, (0,) * 20), ())
        for many in [21, 200]:
            self.assertEqual(limit_of(overtaking, KNOT, (0,) * many), 20)
            self.assertEqual(limit_of(takes_overtaking, KNOT, (0,) * many, None), 20)
        self.assertRaises(InvalidWay, overtaking, KNOT, (0,) * 201)
        self.assertRaises(InvalidWay, overtaking, KNOT, (0,) * 30 + (1,))
        # A step that is too great comes ahead of there being too many.
        term = call(A, KNOT, WIDE)
        knot, wide = redexes(term)
        self.assertEqual(limit_of(overtaking, term, (knot,) * 30 + (wide,)), 600)

    def test_full_steps_that_are_too_great(self):
        term = call(A, call(I, A), WIDE)
        node = redexes(term)[0]
        self.assertEqual(limit_of(overtaking, term, (node,)), 600)
        for value in [(), None, (0,), "way"]:
            self.assertEqual(limit_of(takes_overtaking, term, (node,), value), 600)
        self.assertIs(takes_overtaking(term, (), ()), True)
        self.assertEqual(limit_of(overtaking, call(A, call(I, A), HIGH), (node,)), 60)

    def test_more_than_200_that_are_left(self):
        # 49 loops, each done in 5 full steps, but for one that is done by the way.
        term = full(40, KNOT)
        nodes = redexes(term)
        self.assertEqual(len(nodes), 40)
        for many, limit in [(5, None), (6, 200)]:
            self.assertEqual(limit_of(overtaking, term, (nodes[0],) * many), limit)
            self.assertEqual(limit_of(takes_overtaking, term, (nodes[0],) * many, ()), None)
        way = overtaking(term, (nodes[0],) * 5)
        self.assertEqual(len(way), 195)

    def test_greatest_redexes_first(self):
        # The least redex first would make five copies of what the greatest one drops.
        term = call(funs(1, full(5, ("name", 0))), call(funs(1, A), full(130)))
        self.assertEqual(limit_of(walk, term, (0,)), 600)
        self.assertEqual(full_steps(term, 1)[1], full(5))
        self.assertEqual(overtaking(term, (redexes(term)[1],)), (0,))


class WrongArgumentsTest(unittest.TestCase):

    def test_terms_numbers_and_ways(self):
        for value in ODD_VALUES:
            if value != A:
                self.assertRaises(InvalidTerm, full_steps, value, value)
                self.assertRaises(InvalidTerm, overtaking, value, value)
                self.assertRaises(InvalidTerm, takes_overtaking, value, value, value)
        for value in [None, True, False, -1, 21, 10 ** 100, "0", (0,), [0]]:
            self.assertRaises(InvalidNumber, full_steps, WIDE, value)
        for value in ODD_VALUES + [(1,), (0, 0), (0, True), [0], (0,) * 201, (5, 0, 0), (False,)]:
            if value not in ((), (0,)):
                self.assertRaises(InvalidWay, overtaking, T, value)
                self.assertRaises(InvalidWay, takes_overtaking, T, value, None)
        self.assertEqual(limit_of(overtaking, WIDE, (0,)), 600)
        self.assertRaises(InvalidWay, overtaking, W, (0,))


if __name__ == "__main__":
    unittest.main()
