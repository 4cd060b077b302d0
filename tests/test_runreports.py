"""Reports of runs, and ways to the normal form counted: [44] and [91], and what [3] promises of them."""

import random
import unittest

from sharefold.errors import InvalidNumber, InvalidNumbers, InvalidTerm
from sharefold.familyways import unfolded
from sharefold.foldfamilies import agreement
from sharefold.folds import begun
from sharefold.netfolds import folds_to_normal
from sharefold.netlots import run_way
from sharefold.netruns import is_run, run_by, term_behind
from sharefold.runreports import counts_to_normal, run_report, takes_report
from sharefold.steps import is_normal
from sharefold.termnets import net_of
from sharefold.ways import is_way, leftmost_way, terms_along, walk
from tests.samples import A, B, HIGH, I, ODD_VALUES, T, W, WIDE, call, calls, full, funs, limit_of, random_terms
from tests.test_developments import chain
from tests.test_meets import GROWING, KNOT

AA = call(A, A)
# The net of this term would have too many nodes.
NET_WIDE = funs(30, full(150, ("name", 3)))


class ReportTest(unittest.TestCase):

    def test_whatever_is_done(self):
        dice = random.Random(451)
        longer = 0
        for term in random_terms(451, 200, 24):
            numbers = tuple([dice.randrange(10 ** 6 + 1) for _ in range(dice.randrange(40))])
            if limit_of(run_report, term, numbers) is not None:
                continue
            run, way, read = run_report(term, numbers)
            self.assertEqual((run, read), (run_by(term, numbers), term_behind(term, run)))
            self.assertEqual(walk(term, way), read)
            self.assertIs(takes_report(term, (run, way, read)), True)
            longer += len(way) > 2
        self.assertGreater(longer, 50)

    def test_any_way_will_do(self):
        run = run_by(T, (0,) * 60)
        for way in [(0, 1, 2), (5, 0), (0, 5, 1)]:
            self.assertIs(takes_report(T, (run, way, AA)), True)
        self.assertIs(takes_report(T, ((), (), T)), True)
        self.assertIs(takes_report(KNOT, ((), (0,) * 200, KNOT)), True)
        self.assertIs(takes_report(KNOT, ((), (0,) * 201, KNOT)), False)

    def test_spoilt_at_each_place(self):
        dice = random.Random(452)
        for term in random_terms(452, 60, 20) + [T]:
            numbers = tuple([dice.randrange(9) for _ in range(12)])
            if limit_of(run_report, term, numbers) is not None:
                continue
            run, way, read = run_report(term, numbers)
            for other in [run[:-1], run[1:], run + ((0, 1),), run[::-1], list(run), tuple([list(own) for own in run]),
                          tuple([own[::-1] for own in run]), run + (None,), None]:
                expected = isinstance(other, tuple) and is_run(term, other) and term_behind(term, other) == read
                self.assertIs(takes_report(term, (other, way, read)), expected)
            for other in [way[:-1], way[1:], way + (0,), list(way), way[::-1], None, (True,) + way]:
                self.assertIs(takes_report(term, (run, other, read)), is_way(term, other) and walk(term, other) == read)
            for other in [call(read, A) if read != A else B, list(read), None, (), read + (), read[:1], ("fun", read)]:
                self.assertIs(takes_report(term, (run, way, other)), other == read)
            for value in [(run, way), (run, way, read, ()), [run, way, read], (way, run, read), (run, read, way)]:
                self.assertIs(takes_report(term, value), value == (run, way, read))

    def test_any_values(self):
        for value in ODD_VALUES:
            self.assertIs(takes_report(T, value), False)
            self.assertIs(takes_report(T, (value, (), T)), value == ())
            self.assertIs(takes_report(T, ((), value, T)), value == ())
            self.assertIs(takes_report(T, ((), (), value)), False)
            self.assertIs(takes_report(A, ((), (), value)), value == A)
        self.assertIs(takes_report(funs(2, ("name", 1)), ((), (), funs(2, ("name", True)))), False)
        self.assertIs(takes_report(I, ((), (), ("fun", ("name", False)))), False)
        self.assertIs(takes_report(T, (((False, True),), (0,), walk(T, (0,)))), False)
        self.assertIs(takes_report(T, (((0, 1),), (0,), walk(T, (0,)))), True)
        self.assertIs(takes_report(T, (((0, 1),) * 401, (0,), walk(T, (0,)))), False)

    def test_runs_that_are_no_runs(self):
        for run in [((0, 2),), ((1, 0),), ((0, 1), (0, 99)), (("0", 1),), ((0, 1, 2),), ([0, 1],)]:
            self.assertIs(takes_report(T, (run, (0,), walk(T, (0,)))), False)


class TooGreatTest(unittest.TestCase):

    def test_nets(self):
        limit = limit_of(net_of, NET_WIDE)
        self.assertEqual(limit, 600)
        self.assertEqual(limit_of(run_report, NET_WIDE, ()), 600)
        self.assertIs(takes_report(NET_WIDE, ((), (), NET_WIDE)), False)
        self.assertEqual(limit_of(counts_to_normal, NET_WIDE, 0), 600)
        # Each argument is of a level more.
        for many, limit in [(39, None), (40, None), (41, 39)]:
            self.assertEqual(limit_of(run_report, chain(many), ()), limit)
            self.assertIs(takes_report(chain(many), ((), (), chain(many))), limit is None)

    def test_readings_and_doings(self):
        for term, limit in [(WIDE, 600), (HIGH, 60)]:
            numbers = (0,) * 400
            self.assertEqual(limit_of(run_report, term, ()), None)
            found = limit_of(run_report, term, numbers)
            self.assertIn(found, [600, 60])
            self.assertEqual(limit_of(run_report, term, (0,)), limit)
            # The run is right, but what is read behind it is too great.
            run = run_by(term, (0,))
            self.assertIs(is_run(term, run), True)
            self.assertEqual(limit_of(term_behind, term, run), limit)
            self.assertIs(takes_report(term, (run, (), term)), False)
            self.assertIs(takes_report(term, ((), (), term)), True)
            self.assertEqual(limit_of(counts_to_normal, term, 9), limit)

    def test_ways_of_more_than_200_steps(self):
        # Each doing is of many redexes at once.
        term = call(funs(1, full(8, ("name", 0))), chain(30))
        numbers = (0,) * 60
        seen = set()
        for many in range(0, 400, 20):
            numbers = (0,) * many
            limit = limit_of(run_report, term, numbers)
            seen.add(limit)
            if limit is None:
                self.assertIs(takes_report(term, run_report(term, numbers)), True)
            else:
                self.assertEqual(limit, limit_of(lambda: run_way(term, run_by(term, numbers))))
        self.assertIn(None, seen)


class CountsTest(unittest.TestCase):

    def test_as_many_folds_as_family_steps(self):
        fewer = counted = 0
        for term in random_terms(453, 400, 26):
            if limit_of(counts_to_normal, term, 25) is not None:
                continue
            told = counts_to_normal(term, 25)
            way, behind = leftmost_way(term, 200)
            if told is None:
                self.assertIs(is_normal(behind) and len(way) <= 25, False)
                continue
            folds, families, steps = told
            self.assertEqual((folds, families, steps), (folds_to_normal(term, 25), len(unfolded(begun(term), 200)[0]), len(way)))
            self.assertIs(is_normal(behind), True)
            self.assertEqual(agreement(term, 60)[-1][2] if folds else term, behind)
            self.assertEqual(folds, families)
            self.assertLessEqual(families, steps)
            fewer += families < steps
            counted += 1
            if folds:
                self.assertIsNone(counts_to_normal(term, folds - 1))
            self.assertEqual(counts_to_normal(term, folds), told)
        self.assertGreater(counted, 150)
        self.assertGreater(fewer, 5)

    def test_0_to_60_folds(self):
        self.assertEqual([counts_to_normal(A, 0), counts_to_normal(T, 0), counts_to_normal(A, 60)], [(0, 0, 0), None, (0, 0, 0)])
        self.assertEqual(counts_to_normal(chain(30), 60), (30, 30, 30))
        self.assertIsNone(counts_to_normal(chain(30), 29))
        self.assertIsNone(counts_to_normal(call(funs(1, KNOT), A), 0))

    def test_a_201st_plain_step(self):
        # Each of so many functions makes two of what is behind it, which folds do once alone.
        def doubled(many):
            return call(funs(1, call(A, ("name", 0), ("name", 0))), doubled(many - 1)) if many else call(I, A)

        self.assertEqual(counts_to_normal(doubled(6), 60), (7, 7, 127))
        term = call(A, doubled(6), doubled(5))
        for more, limit in [(9, None), (10, None), (11, 200), (12, 200)]:
            own = call(term, chain(more))
            self.assertEqual(limit_of(counts_to_normal, own, 60), limit)
            if limit is None:
                self.assertEqual(counts_to_normal(own, 60), (13 + more, 13 + more, 190 + more))

    def test_which_limit_comes_first(self):
        # Folds come ahead of family steps, these ahead of plain ones.
        for term in [WIDE, HIGH, GROWING]:
            folds = limit_of(folds_to_normal, term, 60)
            self.assertEqual(limit_of(counts_to_normal, term, 60), folds)
        tried = 0
        for term in random_terms(454, 150, 30):
            expected = limit_of(folds_to_normal, term, 20)
            if expected is None:
                folds = folds_to_normal(term, 20)
                if folds is None:
                    self.assertIsNone(counts_to_normal(term, 20))
                    continue
                expected = limit_of(agreement, term, folds)
                if expected is None:
                    way = leftmost_way(term, 200)[0]
                    expected = None if is_normal(walk(term, way)) else limit_of(terms_along, term, way + (0,)) or 200
            tried += expected is not None
            if expected in (None, 400, 20000):
                self.assertEqual(limit_of(counts_to_normal, term, 20), expected)
        self.assertGreater(tried, 0)


class WrongArgumentsTest(unittest.TestCase):

    def test_from_left_to_right(self):
        for value in ODD_VALUES:
            if value != A:
                self.assertRaises(InvalidTerm, run_report, value, None)
                self.assertRaises(InvalidTerm, takes_report, value, None)
                self.assertRaises(InvalidTerm, counts_to_normal, value, None)
        for value in [None, True, False, -1, 61, 10 ** 100, "0", (0,), [0]]:
            self.assertRaises(InvalidNumber, counts_to_normal, NET_WIDE, value)
        for value in [None, 0, [0], (True,), (-1,), (10 ** 6 + 1,), (0,) * 401, ("0",), ((0,),), (None,), "00"]:
            self.assertRaises(InvalidNumbers, run_report, NET_WIDE, value)
        self.assertEqual(run_report(T, (10 ** 6,) * 400)[2], AA)
        self.assertEqual(run_report(calls(3, A), (0,)), ((), (), calls(3, A)))
        self.assertEqual(run_report(W, (0,)), ((), (), W))


if __name__ == "__main__":
    unittest.main()
