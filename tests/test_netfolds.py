"""Folds: [26] and [70], and what [3] promises of them."""

import unittest

from sharefold.doings import done
from sharefold.errors import InvalidNumber, InvalidRun, InvalidTerm
from sharefold.familyways import unfolded
from sharefold.foldfamilies import agreement
from sharefold.folds import begun
from sharefold.liveedges import edge_sort, live_edges
from sharefold.netfolds import fold_behind, folds_of, folds_to_normal
from sharefold.netlots import counts_of, run_lots
from sharefold.netruns import net_behind, term_behind
from sharefold.netweights import wanted_behind, weight_behind
from sharefold.steps import is_normal
from sharefold.termnets import net_of
from sharefold.ways import leftmost_way
from tests.samples import A, HIGH, I, ODD_VALUES, T, W, WIDE, call, full, limit_of, random_terms
from tests.test_netruns import BIG, DEEP, LOOP, growing


def fold_by_fold(term, most):
    """The lots of folds, what is read behind them, and the run that they are, by `fold_behind` alone."""
    run, lots = (), []
    while len(lots) < most and fold_behind(term, run) is not None:
        run = fold_behind(term, run)
        lots.append(run_lots(term, run)[-1])
    return lots, term_behind(term, run), run


class FoldTest(unittest.TestCase):

    def test_wanted_edges_up_to_one_of_a_call_and_a_fun(self):
        longer = 0
        for term in random_terms(221, 60, 25):
            if limit_of(folds_of, term, 6) is not None:
                continue
            run = ()
            for _ in range(6):
                behind = fold_behind(term, run)
                weight = weight_behind(term, run)
                self.assertEqual(behind is None, wanted_behind(term, run) is None)
                if behind is None:
                    break
                self.assertEqual(behind[:len(run)], run)
                self.assertLessEqual(len(behind) - len(run), weight + 1)
                for place in range(len(run), len(behind)):
                    self.assertEqual(behind[place], wanted_behind(term, behind[:place]))
                sorts = [edge_sort(net_behind(term, behind[:place]), behind[place]) == "call"
                         for place in range(len(run), len(behind))]
                self.assertEqual(sorts, [False] * (len(sorts) - 1) + [True])
                longer += len(sorts) > 1
                run = behind
        self.assertGreater(longer, 5)

    def test_folds_one_behind_the_other(self):
        for term in random_terms(222, 60, 25) + [T, A, I, call(W, I)]:
            if limit_of(folds_of, term, 60) is None:
                lots, behind, run = fold_by_fold(term, 60)
                self.assertEqual(folds_of(term, 60), (lots, behind))
                self.assertIs(is_normal(behind), True)
                self.assertEqual(counts_of(term, run)[0], len(lots))
                for most in range(len(lots) + 2):
                    self.assertEqual(folds_of(term, most)[0], lots[:most])
                    self.assertEqual(folds_of(term, most)[1], fold_by_fold(term, most)[1])
                    self.assertEqual(folds_to_normal(term, most), len(lots) if most >= len(lots) else None)

    def test_leftmost_family_steps(self):
        compared = 0
        for term in random_terms(223, 150, 40):
            if limit_of(folds_of, term, 60) is not None or limit_of(agreement, term, 60) is not None:
                continue
            triples = agreement(term, 60)
            lots, behind = folds_of(term, 60)
            self.assertEqual(lots, [lot for _, lot, _ in triples])
            self.assertEqual(behind, triples[-1][2] if triples else term)
            for most in range(len(lots)):
                self.assertEqual(folds_of(term, most)[1], term if most == 0 else triples[most - 1][2])
            way, fold = unfolded(begun(term), 60)
            self.assertEqual((len(way), fold[0]), (len(lots), behind))
            plain = leftmost_way(term, 200)
            if is_normal(plain[1]):
                self.assertLessEqual(folds_to_normal(term, 60), len(plain[0]))
            compared += 1
        self.assertGreater(compared, 100)

    def test_no_folds(self):
        for term in [A, I, call(A, I)]:
            self.assertIsNone(fold_behind(term, ()))
            self.assertEqual(folds_of(term, 60), ([], term))
            self.assertEqual([folds_to_normal(term, most) for most in (0, 60)], [0, 0])
        # With none asked for.
        self.assertEqual(folds_of(T, 0), ([], T))
        self.assertIsNone(folds_to_normal(T, 0))

    def test_up_to_60_folds(self):
        for many, expected in [(30, 30), (60, 60), (61, None)]:
            term = full(many, call(I, A))
            lots, behind = folds_of(term, 60)
            self.assertEqual(len(lots), min(many, 60))
            self.assertIs(is_normal(behind), many < 61)
            self.assertEqual(folds_to_normal(term, 60), expected)


class TooGreatTest(unittest.TestCase):

    def test_400_pairs_and_more(self):
        run = ()
        for _ in range(16):
            run = fold_behind(LOOP, run)
        self.assertEqual(len(run), 386)
        self.assertEqual(limit_of(fold_behind, LOOP, run), 400)
        self.assertEqual(len(folds_of(LOOP, 16)[0]), 16)
        for most in [17, 60]:
            self.assertEqual(limit_of(folds_of, LOOP, most), 400)
            self.assertEqual(limit_of(folds_to_normal, LOOP, most), 400)
        self.assertIsNone(folds_to_normal(LOOP, 16))

    def test_a_fold_that_ends_at_the_400th_pair(self):
        # A redex aside can be done by one edge, behind however many others.
        term = call(call(I, A), LOOP)
        first = live_edges(net_of(term))[0]
        self.assertEqual(edge_sort(net_of(term), first), "call")
        for many in [399, 400]:
            run, net = (), net_of(term)
            while len(run) < many:
                edge = live_edges(net)[-1]
                run, net = run + (edge,), done(net, edge)
            if many == 399:
                self.assertEqual(len(fold_behind(term, run)), 400)
                self.assertEqual(fold_behind(term, run)[-1], first)
            else:
                self.assertEqual(limit_of(fold_behind, term, run), 400)

    def test_readings_and_doings(self):
        # Behind the first fold the net cannot be read; the run itself can be told.
        for great, limit in [(WIDE, 600), (HIGH, 60)]:
            term = call(great, call(I, A))
            self.assertEqual(len(fold_behind(term, ())), 1)
            self.assertEqual(limit_of(fold_behind, term, fold_behind(term, ())), limit)
            for most in [1, 2, 60]:
                self.assertEqual(limit_of(folds_of, term, most), limit)
                self.assertEqual(limit_of(folds_to_normal, term, most), limit)
            self.assertEqual(folds_of(term, 0), ([], term))
            self.assertIsNone(folds_to_normal(term, 0))
        for term, limit in [(BIG, 600), (DEEP, 39)]:
            for most in [0, 60]:
                self.assertEqual(limit_of(folds_of, term, most), limit)
                self.assertEqual(limit_of(folds_to_normal, term, most), limit)
            self.assertEqual(limit_of(fold_behind, term, ()), limit)


class WrongArgumentsTest(unittest.TestCase):

    def test_terms_runs_and_numbers(self):
        for value in ODD_VALUES:
            if value != A:
                self.assertRaises(InvalidTerm, fold_behind, value, value)
                self.assertRaises(InvalidTerm, folds_of, value, value)
                self.assertRaises(InvalidTerm, folds_to_normal, value, value)
            if value != ():
                self.assertRaises(InvalidRun, fold_behind, T, value)
        for value in [value for value in ODD_VALUES if value not in (0, 5)] + [61, -1, True, False]:
            for function in [folds_of, folds_to_normal]:
                self.assertRaises(InvalidNumber, function, T, value)
                self.assertRaises(InvalidNumber, function, BIG, value)
        for value in [[(0, 1)], ([0, 1],), ((1, 0),), ((0, True),), (None,) * 401]:
            self.assertRaises(InvalidRun, fold_behind, T, value)
        term, run, edge, limit = growing()
        self.assertEqual(limit_of(fold_behind, term, run + (edge,)), limit)


if __name__ == "__main__":
    unittest.main()
