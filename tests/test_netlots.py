"""Lots and ways of runs: [25] and [68], and what [3] promises of them."""

import random
import unittest

from sharefold.carried import calls_through
from sharefold.doings import done
from sharefold.errors import InvalidRun, InvalidTerm
from sharefold.liveedges import edge_sort, live_edges
from sharefold.netfolds import fold_behind
from sharefold.netlots import counts_of, run_lots, run_way
from sharefold.netruns import run_by, term_behind
from sharefold.readings import read_term
from sharefold.steps import redexes
from sharefold.termnets import net_of
from sharefold.ways import walk
from tests.lot_oracle import slow_development
from tests.samples import A, HIGH, I, ODD_VALUES, T, W, WIDE, call, limit_of, random_terms
from tests.test_developments import chain, fivefold
from tests.test_netruns import BIG, DEEP, LOOP, growing


def folded(term):
    """A run of folds to the normal form."""
    run = ()
    while fold_behind(term, run) is not None:
        run = fold_behind(term, run)
    return run


def edge_of(net, many):
    """The edge of a call and a fun with this index among those of the net."""
    return [edge for edge in live_edges(net) if edge_sort(net, edge) == "call"][many]


class LotsTest(unittest.TestCase):

    def test_edge_by_edge(self):
        dice = random.Random(201)
        greater = 0
        for term in random_terms(201, 80, 25):
            if limit_of(net_of, term) is not None:
                continue
            run, net, lots, way, counts, first = (), net_of(term), [], (), [0] * 4, term
            for _ in range(20):
                if not live_edges(net):
                    break
                edge = dice.choice(live_edges(net))
                sort = edge_sort(net, edge)
                lots.append(calls_through(net, edge) if sort == "call" else ())
                way += slow_development(read_term(net), lots[-1])[0]
                counts[["call", "alike", "unlike", "letter"].index(sort)] += 1
                run, net = run + (edge,), done(net, edge)
                greater += len(lots[-1]) > 1
            self.assertEqual(run_lots(first, run), lots)
            self.assertEqual(run_way(first, run), way)
            self.assertEqual(counts_of(first, run), tuple(counts))
            self.assertEqual(walk(first, way), term_behind(first, run))
        self.assertGreater(greater, 5)

    def test_shared_redexes_are_one_lot(self):
        run = folded(T)
        lots = [lot for lot in run_lots(T, run) if lot]
        self.assertEqual(lots, [(0,), (1, 5)])
        self.assertEqual(run_way(T, run), (0, 5, 1))
        self.assertEqual(counts_of(T, run)[0], 2)

    def test_no_edges(self):
        self.assertEqual((run_lots(A, ()), run_way(A, ()), counts_of(A, ())), ([], (), (0, 0, 0, 0)))

    def test_ways_of_200_steps_and_more(self):
        for extra in [3, 4]:
            term = call(call(fivefold(20), fivefold(19)), chain(extra))
            run = folded(term)
            self.assertEqual(sum(len(lot) for lot in run_lots(term, run)), 197 + extra)
            if extra == 3:
                self.assertEqual(len(run_way(term, run)), 200)
                self.assertEqual(walk(term, run_way(term, run)), term_behind(term, run))
            else:
                self.assertEqual(limit_of(run_way, term, run), 200)

    def test_too_many_steps_come_at_last(self):
        # The run goes on by an edge the lot of which makes a term that is too high.
        term = call(call(fivefold(20), fivefold(20)), HIGH)
        run = ()
        while sum(len(lot) for lot in run_lots(term, run)) < 202:
            run = fold_behind(term, run)
        self.assertEqual(limit_of(run_way, term, run), 200)
        run = fold_behind(term, run)
        self.assertEqual(limit_of(run_way, term, run), 60)
        self.assertEqual(sum(len(lot) for lot in run_lots(term, run)), 203)


class TooGreatTest(unittest.TestCase):

    def test_steps_and_readings(self):
        for great, limit in [(WIDE, 600), (HIGH, 60)]:
            # Two redexes ahead: the great one, and a small one.
            term = call(great, call(I, A))
            net = net_of(term)
            first = edge_of(net, 0)
            self.assertEqual(run_lots(term, (first,)), [(1,)])
            self.assertEqual(limit_of(run_way, term, (first,)), limit)
            self.assertEqual(counts_of(term, (first,)), (1, 0, 0, 0))
            # The net behind cannot be read, so what is ahead of a further edge cannot.
            behind = done(net, first)
            run = (first, edge_of(behind, 0))
            self.assertEqual(limit_of(run_lots, term, run), limit)
            self.assertEqual(limit_of(run_way, term, run), limit)
            self.assertEqual(counts_of(term, run), (2, 0, 0, 0))
            # Where the small one is done first, the net ahead of the great one can be read.
            other = edge_of(net, 1)
            run = (other, edge_of(done(net, other), 0))
            self.assertEqual(run_lots(term, run), [(redexes(term)[-1],), (1,)])
            self.assertEqual(limit_of(run_way, term, run), limit)

    def test_other_edges_are_not_read_ahead(self):
        term = call(WIDE, call(I, A))
        net, run = net_of(term), ()
        for many in (1, 0):
            run += (edge_of(net, many),)
            net = done(net, run[-1])
        self.assertEqual(limit_of(read_term, net), 600)
        self.assertEqual([edge_sort(net, edge) for edge in live_edges(net)], ["letter"])
        run += live_edges(net)
        self.assertEqual(run_lots(term, run), [(redexes(term)[-1],), (1,), ()])

    def test_edge_by_edge(self):
        # The first step is too high; the reading ahead of the second edge would be too great otherwise, too.
        term = call(HIGH, WIDE)
        net = net_of(term)
        first, other = edge_of(net, 0), edge_of(net, 1)
        self.assertEqual(limit_of(run_way, term, (first, edge_of(done(net, first), 0))), 60)
        self.assertEqual(limit_of(run_way, term, (other, edge_of(done(net, other), 0))), 600)


class WrongArgumentsTest(unittest.TestCase):

    def test_terms_and_runs(self):
        for function in [run_lots, run_way, counts_of]:
            for value in ODD_VALUES:
                if value != A:
                    self.assertRaises(InvalidTerm, function, value, value)
                if value != ():
                    self.assertRaises(InvalidRun, function, T, value)
            for value in [[(0, 1)], ([0, 1],), ((1, 0),), ((0, True),), ((0, 1), (0, 1, 2)), (None,) * 401]:
                self.assertRaises(InvalidRun, function, T, value)
            self.assertEqual([limit_of(function, term, ((0, 1),)) for term in (BIG, DEEP)], [600, 39])
            self.assertRaises(InvalidRun, function, BIG, (None,) * 401)

    def test_doings_that_are_too_great(self):
        term, run, edge, limit = growing()
        for function in [run_lots, run_way, counts_of]:
            self.assertEqual(limit_of(function, term, run + (edge,)), limit)
            self.assertRaises(InvalidRun, function, term, run + ((0, 0), edge))

    def test_doings_come_ahead_of_readings(self):
        term = call(WIDE, call(I, A))
        net = net_of(term)
        run = (edge_of(net, 0),)
        run += (edge_of(done(net, run[0]), 0),)
        for function in [run_lots, run_way]:
            self.assertEqual(limit_of(function, term, run), 600)
            self.assertRaises(InvalidRun, function, term, run + (None,))

    def test_long_runs(self):
        run = run_by(LOOP, (0,) * 400)
        counts = counts_of(LOOP, run)
        self.assertEqual(sum(counts), 400)
        self.assertEqual(len(run_way(LOOP, run)), sum(len(lot) for lot in run_lots(LOOP, run)))
        self.assertEqual(walk(LOOP, run_way(LOOP, run)), call(W, W))
        for function in [run_lots, run_way, counts_of]:
            self.assertRaises(InvalidRun, function, LOOP, run + ((0, 1),))


if __name__ == "__main__":
    unittest.main()
