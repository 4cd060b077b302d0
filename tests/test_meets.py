"""Meetings of ways: [35], [37] and [80], and what [3] promises of them."""

import random
import unittest

from sharefold.developments import developed
from sharefold.errors import InvalidLot, InvalidTerm, InvalidWay
from sharefold.meets import meeting, takes_meeting, way_behind
from sharefold.residuals import left_along
from sharefold.steps import redexes
from sharefold.ways import is_way, walk
from tests.lot_oracle import random_lot
from tests.samples import A, HIGH, I, ODD_VALUES, T, W, WIDE, call, calls, full, funs, limit_of, random_terms
from tests.test_developments import chain
from tests.test_residuals import NO_LOTS
from tests.way_oracle import random_way, slow_meeting, slow_tail, told_or_limit

# It is its own step; and so is the argument of the other one, which makes two of it.
KNOT = call(W, W)
TWO_KNOTS = call(W, KNOT)
THREE = funs(1, call(("name", 0), ("name", 0), ("name", 0)))
# It grows with each step.
GROWING = call(THREE, THREE)


class WayBehindTest(unittest.TestCase):

    def test_lot_by_lot(self):
        dice = random.Random(341)
        ended = 0
        for term in random_terms(341, 500, 40):
            way = random_way(dice, term, 7)
            lot = random_lot(dice, term)
            told = told_or_limit(way_behind, term, way, lot)
            self.assertEqual(told, told_or_limit(slow_tail, term, way, lot))
            if told[0] != "limit":
                tail, left = told
                self.assertEqual(left, left_along(term, way, lot))
                if way:
                    self.assertEqual(walk(developed(term, lot), tail), developed(walk(term, way), left))
                ended += len(tail) != len(way)
        self.assertGreater(ended, 60)

    def test_no_way_and_no_lot(self):
        self.assertEqual(way_behind(T, (), (0, 5)), ((), (0, 5)))
        self.assertEqual(way_behind(T, (5, 0), ()), ((5, 0), ()))
        self.assertEqual(way_behind(A, (), ()), ((), ()))
        # Without a way the lot is not developed.
        self.assertEqual(way_behind(WIDE, (), (0,)), ((), (0,)))
        self.assertEqual(way_behind(T, (0, 5, 1), (0,)), ((5, 1), ()))
        self.assertEqual(way_behind(T, (5,), (0, 5)), ((), (0,)))
        self.assertEqual(way_behind(T, (5, 0), (5,)), ((0,), ()))

    def test_copies_of_what_is_done(self):
        self.assertEqual(way_behind(T, (5,), (0,)), ((5, 1), (0,)))
        self.assertEqual(way_behind(T, (0, 1), (5,)), ((0,), (2,)))

    def test_200_steps_and_more(self):
        inner = redexes(TWO_KNOTS)[1]
        for many, limit in [(99, None), (100, None), (101, 200), (200, 200)]:
            self.assertEqual(limit_of(way_behind, TWO_KNOTS, (inner,) * many, (0,)), limit)
        self.assertEqual(way_behind(TWO_KNOTS, (inner,) * 100, (0,)), ((10, 1) * 100, (0,)))
        # What stays as it is counts, too.
        steps = (inner,) * 60 + (0,)
        for many, limit in [(80, None), (81, 200)]:
            self.assertEqual(limit_of(way_behind, TWO_KNOTS, steps + (1,) * many, (0,)), limit)

    def test_steps_that_are_too_great(self):
        # The lot's own steps; they need not be those of the way.
        for lot, limit in [((0,), 600), ((), None)]:
            term = call(WIDE, call(I, A))
            node = redexes(term)[1]
            lot = tuple([own + 1 for own in lot])
            self.assertEqual(limit_of(way_behind, term, (node,), lot), limit)
        self.assertEqual(limit_of(way_behind, call(HIGH, call(I, A)), (redexes(call(HIGH, call(I, A)))[1],), (1,)), 60)
        # Behind a step of the way what is left of the lot is too great.
        term = call(funs(1, call(A, ("name", 0), ("name", 0))), call(funs(1, full(3, ("name", 0))), full(60)))
        inner = redexes(term)[1]
        self.assertEqual(limit_of(way_behind, term, (inner,), (0,)), 600)
        self.assertEqual(limit_of(way_behind, term, (), (0,)), None)
        term = call(funs(1, calls(30, ("name", 0))), call(funs(1, calls(20, ("name", 0))), calls(15, A)))
        inner = redexes(term)[1]
        self.assertEqual(limit_of(way_behind, term, (inner,), (0,)), 60)

    def test_too_many_ahead_of_what_is_too_great(self):
        # A step of the argument makes it too great to be doubled behind that; others are doubled ahead of it.
        big = call(funs(1, full(3, ("name", 0))), full(60))
        term = call(W, call(A, KNOT, big))
        _, knot, last = redexes(term)
        for many, limit in [(98, 600), (99, 600), (100, 200), (101, 200)]:
            way = (knot,) * many + (last, knot)
            self.assertEqual(limit_of(walk, term, way), None)
            self.assertEqual(limit_of(way_behind, term, way, (0,)), limit)
            self.assertEqual(limit_of(slow_tail, term, way, (0,)), limit)
            self.assertEqual(limit_of(meeting, term, way, (0,)), limit)
        for many in [98, 100]:
            # The other way round what is left of each step is noted, in turn.
            way = (knot,) * many + (last, knot)
            self.assertEqual(limit_of(meeting, term, (0,), way), limit_of(slow_meeting, term, (0,), way))

    def test_which_limit_comes_first(self):
        # The argument grows with each step: 300 copies of it come to be too great, or are too many, in turn.
        seen = []
        for many in [1, 2, 10, 20, 30, 40]:
            term = call(funs(1, full(many, ("name", 0))), GROWING)
            inner = redexes(term)[1]
            for steps in [1, 5, 11, 21, 40]:
                way = (inner,) + tuple(range(inner + 1, inner + steps))
                if is_way(term, way):
                    told = told_or_limit(way_behind, term, way, (0,))
                    self.assertEqual(told, told_or_limit(slow_tail, term, way, (0,)))
                    seen.append(told[1] if told[0] == "limit" else None)
        self.assertEqual({600, None} - set(seen), set())


class MeetingTest(unittest.TestCase):

    def test_to_one_term(self):
        dice = random.Random(342)
        unlike = 0
        for term in random_terms(342, 400, 40):
            one, other = random_way(dice, term, 6), random_way(dice, term, 6)
            told = told_or_limit(meeting, term, one, other)
            self.assertEqual(told, told_or_limit(slow_meeting, term, one, other))
            if told[0] == "limit":
                continue
            behind, beyond = walk(term, one), walk(term, other)
            self.assertEqual(walk(behind, told[0]), walk(beyond, told[1]))
            self.assertIs(takes_meeting(term, one, other, told), True)
            self.assertIs(takes_meeting(term, one, other, list(told)), False)
            if behind != beyond:
                unlike += 1
                self.assertIs(takes_meeting(term, one, other, ((), ())), False)
            for spoilt in [(told[0][:-1], told[1]), (told[0], told[1][:-1]), told[::-1]]:
                expected = is_way(behind, spoilt[0]) and is_way(beyond, spoilt[1])
                expected = expected and walk(behind, spoilt[0]) == walk(beyond, spoilt[1])
                self.assertIs(takes_meeting(term, one, other, spoilt), expected)
        self.assertGreater(unlike, 100)

    def test_empty_ways_and_one_way_with_itself(self):
        for way in [(), (0,), (5, 0), (0, 5, 1)]:
            self.assertEqual(meeting(T, way, ()), ((), way))
            self.assertEqual(meeting(T, (), way), (way, ()))
            self.assertEqual(meeting(T, way, way), ((), ()))
        self.assertEqual(meeting(WIDE, (), ()), ((), ()))

    def test_the_same_redexes_in_another_order(self):
        self.assertEqual(meeting(T, (5, 0), (0, 5, 1)), ((), ()))
        self.assertEqual(meeting(T, (0, 5), (5, 0)), ((1,), ()))
        self.assertEqual(meeting(call(chain(1), chain(1)), (1, 2), (5, 1)), ((), ()))

    def test_a_loop_with_itself(self):
        self.assertEqual(meeting(KNOT, (0,) * 200, (0,) * 200), ((), ()))
        self.assertEqual(meeting(KNOT, (0,) * 3, (0,) * 5), ((0, 0), ()))

    def test_200_noted_and_more(self):
        inner = redexes(TWO_KNOTS)[1]
        for many, limit in [(100, None), (101, 200)]:
            self.assertEqual(limit_of(meeting, TWO_KNOTS, (0,), (inner,) * many), limit)
            self.assertEqual(limit_of(meeting, TWO_KNOTS, (inner,) * many, (0,)), limit)
        # Ways that do not touch each other are left as they are.
        both = call(A, KNOT, KNOT)
        one, other = redexes(both)
        self.assertEqual(meeting(both, (one,) * 200, (other,) * 20), ((other,) * 20, (one,) * 200))

    def test_steps_that_are_too_great(self):
        # Either way is none that is too great, but both together are.
        term = call(funs(1, call(A, ("name", 0), ("name", 0))), call(funs(1, full(3, ("name", 0))), full(60)))
        inner = redexes(term)[1]
        self.assertEqual(limit_of(walk, term, (0,)), None)
        self.assertEqual(limit_of(walk, term, (inner,)), None)
        self.assertEqual(limit_of(meeting, term, (0,), (inner,)), 600)
        self.assertEqual(limit_of(meeting, term, (inner,), (0,)), 600)
        self.assertIs(takes_meeting(term, (0,), (inner,), ((), ())), False)


class WrongArgumentsTest(unittest.TestCase):

    def test_terms_ways_and_lots(self):
        for value in ODD_VALUES:
            if value != A:
                self.assertRaises(InvalidTerm, way_behind, value, value, value)
                self.assertRaises(InvalidTerm, meeting, value, value, value)
                self.assertRaises(InvalidTerm, takes_meeting, value, value, value, value)
        for value in ODD_VALUES + [(1,), (0, 0), (0, True), [0], (0,) * 201, (5, 0, 0), (False,)]:
            if value not in ((), (0,)):
                self.assertRaises(InvalidWay, way_behind, T, value, None)
                self.assertRaises(InvalidWay, meeting, T, value, None)
                self.assertRaises(InvalidWay, meeting, T, (0,), value)
                self.assertRaises(InvalidWay, takes_meeting, T, value, None, None)
                self.assertRaises(InvalidWay, takes_meeting, T, (5,), value, None)
        for value in ODD_VALUES + NO_LOTS:
            if value not in ((), (0,)):
                self.assertRaises(InvalidLot, way_behind, T, (0,), value)
                self.assertRaises(InvalidLot, way_behind, WIDE, (), value)

    def test_ways_that_are_too_great(self):
        for term, limit in [(WIDE, 600), (HIGH, 60)]:
            self.assertEqual(limit_of(way_behind, term, (0,), None), limit)
            self.assertEqual(limit_of(meeting, term, (0,), None), limit)
            self.assertEqual(limit_of(meeting, term, (), (0,)), limit)
            self.assertEqual(limit_of(takes_meeting, term, (0,), None, None), limit)
            self.assertEqual(limit_of(takes_meeting, term, (), (0,), None), limit)
            self.assertRaises(InvalidWay, meeting, term, (1,), (0,))

    def test_any_values_that_are_no_meeting(self):
        for value in ODD_VALUES + [((5, 1), (0,), ()), ((5, 1),), ([5, 1], (0,)), ((5, 1), [0]), ((5, True), (0,)),
                                   ((5, 1), (False,)), ((5, 1, 0), (0,)), ((5,), (0,)), (None, None), ((), ())]:
            self.assertIs(takes_meeting(T, (0,), (5,), value), False, value)
        for value in [((5, 1), (0,)), ((1, 2), (0,))]:
            self.assertIs(takes_meeting(T, (0,), (5,), value), True)
        self.assertIs(takes_meeting(KNOT, (), (0,), ((0,) * 200, ())), True)
        self.assertIs(takes_meeting(KNOT, (), (0,), ((0,) * 201, ())), False)


if __name__ == "__main__":
    unittest.main()
