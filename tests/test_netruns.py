"""Runs: [25] and [67], and what [3] promises of what is read behind each doing."""

import random
import unittest

from sharefold.carried import calls_through
from sharefold.doings import done
from sharefold.errors import InvalidNumbers, InvalidRun, InvalidTerm, TooMany
from sharefold.liveedges import edge_sort, live_edges
from sharefold.netruns import is_run, net_behind, run_by, term_behind
from sharefold.readings import read_term
from sharefold.termnets import net_of
from tests.lot_oracle import slow_development
from tests.samples import A, I, ODD_VALUES, T, W, call, calls, full, funs, limit_of, random_terms

# The nets of these are too great: for 600 nodes, for an index of 39.
BIG, DEEP = funs(1, call(full(299), ("name", 0))), calls(41, A)
# Its runs go on for ever; with all numbers 0 each net is one of few.
LOOP = call(W, W)


def growing():
    """A term, a run of it that can be gone on, the edge the doing of which is too great, and the limit."""
    dice = random.Random(171)
    while True:
        argument = funs(3, call(("name", 2), full(280), call(("name", 0), ("name", 1))))
        term = call(funs(1, call(("name", 0), call(("name", 0), ("name", 0)))), argument)
        run, net = (), net_of(term)
        while live_edges(net):
            edge = dice.choice(live_edges(net))
            try:
                net = done(net, edge)
            except TooMany as error:
                return term, run, edge, error.limit
            run += (edge,)


class RunTest(unittest.TestCase):

    def test_runs_edge_by_edge(self):
        dice = random.Random(172)
        for term in random_terms(172, 40, 25):
            if limit_of(net_of, term) is not None:
                continue
            net, run, numbers = net_of(term), (), ()
            while live_edges(net) and len(run) < 12:
                self.assertIs(is_run(term, run), True)
                self.assertEqual(net_behind(term, run), net)
                self.assertEqual(term_behind(term, run), read_term(net))
                self.assertEqual(run_by(term, numbers), run)
                number = dice.randrange(10 ** 6 + 1)
                edge = live_edges(net)[number % len(live_edges(net))]
                if limit_of(done, net, edge) is not None:
                    self.assertIs(is_run(term, run + (edge,)), False)
                    break
                net, run, numbers = done(net, edge), run + (edge,), numbers + (number,)

    def test_it_ends_where_there_is_none(self):
        self.assertEqual(run_by(A, (0, 1, 2)), ())
        self.assertEqual(run_by(call(I, A), (0,) * 400), ((0, 1), (0, 1)))
        self.assertEqual(net_behind(call(I, A), ((0, 1), (0, 1))), net_of(A))

    def test_what_is_read_behind_each_doing(self):
        dice = random.Random(173)
        lots = 0
        for term in random_terms(173, 60, 25):
            if limit_of(net_of, term) is not None:
                continue
            net = net_of(term)
            for _ in range(15):
                edges = live_edges(net)
                if not edges:
                    break
                edge = dice.choice(edges)
                lot = calls_through(net, edge) if edge_sort(net, edge) == "call" else ()
                expected = slow_development(term, lot)[1]
                net = done(net, edge)
                term = read_term(net)
                self.assertEqual(term, expected)
                lots += len(lot) > 1
        self.assertGreater(lots, 3)

    def test_wanted_order(self):
        self.assertEqual(term_behind(T, run_by(T, (0,) * 60)), call(A, A))
        self.assertEqual(term_behind(T, run_by(T, (7,) * 60)), call(A, A))

    def test_400_pairs_and_one_more(self):
        run = run_by(LOOP, (0,) * 400)
        self.assertEqual(len(run), 400)
        self.assertIs(is_run(LOOP, run), True)
        self.assertEqual(term_behind(LOOP, run), LOOP)
        more = run + live_edges(net_behind(LOOP, run))[:1]
        self.assertIs(is_run(LOOP, more), False)
        for function in [net_behind, term_behind]:
            self.assertRaises(InvalidRun, function, LOOP, more)


class IsRunTest(unittest.TestCase):

    def test_no_runs(self):
        for value in ODD_VALUES:
            self.assertIs(is_run(T, value), value == (), value)
            self.assertIs(is_run(T, (value,)), False)
            self.assertIs(is_run(T, ((0, 1), value)), False)
        for value in [[(0, 1)], ([0, 1],), ((1, 0),), ((0, 2),), ((0, True),), ((False, 1),), ((0, 1), (0, 1, 2))]:
            self.assertIs(is_run(T, value), False)
        self.assertIs(is_run(T, ((0, 1),)), True)

    def test_the_net_is_made_first(self):
        for term, limit in [(BIG, 600), (DEEP, 39)]:
            for value in [(), (None,) * 400, (0,), ((0, 1),)]:
                self.assertEqual(limit_of(is_run, term, value), limit)
                for function in [net_behind, term_behind]:
                    self.assertEqual(limit_of(function, term, value), limit)
            for value in [(None,) * 401, [], None, "", 0, [(0, 1)]]:
                self.assertIs(is_run(term, value), False)
                for function in [net_behind, term_behind]:
                    self.assertRaises(InvalidRun, function, term, value)
            self.assertEqual(limit_of(run_by, term, ()), limit)

    def test_doings_that_are_too_great(self):
        term, run, edge, limit = growing()
        self.assertIs(is_run(term, run), True)
        for last in [(), (None,), ((0, 0),)]:
            self.assertIs(is_run(term, run + (edge,) + last), False)
            for function in [net_behind, term_behind]:
                self.assertEqual(limit_of(function, term, run + (edge,) + last), limit)
        for last in [((0, 0), edge), (None, edge)]:
            self.assertIs(is_run(term, run + last), False)
            self.assertRaises(InvalidRun, net_behind, term, run + last)
        net, numbers = net_of(term), ()
        for own in run + (edge,):
            numbers += (live_edges(net).index(own),)
            if own != edge or len(numbers) <= len(run):
                net = done(net, own)
        self.assertEqual(run_by(term, numbers[:-1]), run)
        self.assertEqual(limit_of(run_by, term, numbers), limit)


class WrongArgumentsTest(unittest.TestCase):

    def test_terms_runs_and_numbers(self):
        for value in ODD_VALUES:
            if value != A:
                for function in [is_run, net_behind, term_behind, run_by]:
                    self.assertRaises(InvalidTerm, function, value, value)
        for value in ODD_VALUES:
            if value != ():
                self.assertRaises(InvalidRun, net_behind, T, value)
                self.assertRaises(InvalidRun, term_behind, T, value)
            if value not in ((), (0,)):
                self.assertRaises(InvalidNumbers, run_by, T, value)

    def test_numbers(self):
        self.assertEqual(run_by(T, (10 ** 6,)), run_by(T, (0,)))
        self.assertEqual(len(run_by(T, (10 ** 6 - 1,) * 400)), len(run_by(T, (1,) * 400)))
        for value in [(10 ** 6 + 1,), (-1,), (True,), (0, False), ("0",), [0], (0,) * 401, ((0,),), (None,)]:
            self.assertRaises(InvalidNumbers, run_by, T, value)
            self.assertRaises(InvalidNumbers, run_by, BIG, value)


if __name__ == "__main__":
    unittest.main()
