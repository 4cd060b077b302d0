"""Wanted edges, passes and weights of runs: [26] and [69], and what [3] promises of them."""

import random
import unittest

from sharefold.doings import done
from sharefold.errors import InvalidRun, InvalidTerm
from sharefold.liveedges import edge_sort, live_edges
from sharefold.netruns import net_behind
from sharefold.netweights import passes_behind, wanted_behind, weight_behind
from sharefold.steps import leftmost
from sharefold.termnets import net_of
from tests.net_oracle import SlowReading, slow_edges
from tests.samples import A, I, ODD_VALUES, T, W, WIDE, call, limit_of, random_terms
from tests.test_netruns import BIG, DEEP, growing
from tests.test_wanted import fronts


def slow_told(net):
    """The wanted edge, the words of the passes, and the weight."""
    reading = SlowReading(net)
    redex = leftmost(reading.term)
    if redex is None:
        return None, None, -1
    hops = reading.hops[redex + 1]
    edges = [edge for edge in fronts(hops) if edge in slow_edges(net)]
    words = ["out" if end[1] else "in" for _, end in hops[:-1]]
    pairs = [(one, other) for place, one in enumerate(words) for other in words[place + 1:]]
    return (edges + [None])[0], tuple(words), len(words) + pairs.count(("out", "in"))


class WeightTest(unittest.TestCase):

    def told(self, term, run):
        return wanted_behind(term, run), passes_behind(term, run), weight_behind(term, run)

    def test_along_runs(self):
        dice = random.Random(211)
        words, less = [], 0
        for term in random_terms(211, 80, 25):
            if limit_of(net_of, term) is not None:
                continue
            run, net = (), net_of(term)
            for _ in range(25):
                told = self.told(term, run)
                self.assertEqual(told, slow_told(net))
                # A wanted edge, if and only if there is a redex.
                self.assertEqual(told[0] is None, told[1] is None)
                words += [told[1]]
                if not live_edges(net):
                    break
                wanted = told[0]
                if wanted is None or dice.random() < 0.5:
                    edge = dice.choice(live_edges(net))
                else:
                    edge = wanted
                if limit_of(done, net, edge) is not None:
                    break
                run, sort, net = run + (edge,), edge_sort(net, edge), done(net, edge)
                if edge == wanted and sort != "call":
                    self.assertLess(weight_behind(term, run), told[2])
                    less += 1
        self.assertGreater(less, 10)
        self.assertTrue(any(row is not None and "in" in row and "out" in row for row in words))

    def test_pairs_are_counted(self):
        # An earlier "out" and a later "in" count, the other way round they do not.
        dice = random.Random(212)
        found = set()
        for term in random_terms(212, 250, 30):
            if limit_of(net_of, term) is not None:
                continue
            run, net = (), net_of(term)
            for _ in range(20):
                edges = live_edges(net)
                if not edges or limit_of(done, net, edges[0]) is not None:
                    break
                words, weight = passes_behind(term, run), weight_behind(term, run)
                if words is not None:
                    pairs = sum(words[:place].count("out") for place, word in enumerate(words) if word == "in")
                    self.assertEqual(weight, len(words) + pairs)
                    found.add(pairs > 0)
                edge = dice.choice(edges)
                run, net = run + (edge,), done(net, edge)
        self.assertEqual(found, {True, False})

    def test_without_a_redex(self):
        for term in [A, I, W, call(A, I)]:
            self.assertEqual(self.told(term, ()), (None, None, -1))
        self.assertEqual(self.told(call(I, A), ((0, 1),)), (None, None, -1))
        self.assertEqual(self.told(call(I, A), ()), ((0, 1), (), 0))


class WrongArgumentsTest(unittest.TestCase):

    def test_terms_and_runs(self):
        for function in [wanted_behind, passes_behind, weight_behind]:
            for value in ODD_VALUES:
                if value != A:
                    self.assertRaises(InvalidTerm, function, value, value)
                if value != ():
                    self.assertRaises(InvalidRun, function, T, value)
            for value in [[(0, 1)], ([0, 1],), ((1, 0),), ((0, True),), (None,) * 401]:
                self.assertRaises(InvalidRun, function, T, value)
            self.assertEqual([limit_of(function, term, ((0, 1),)) for term in (BIG, DEEP)], [600, 39])

    def test_doings_and_readings_that_are_too_great(self):
        term, run, edge, limit = growing()
        net = net_of(WIDE)
        for function in [wanted_behind, passes_behind, weight_behind]:
            self.assertEqual(limit_of(function, term, run + (edge,)), limit)
            self.assertEqual(limit_of(function, WIDE, live_edges(net)[:1]), 600)
            self.assertRaises(InvalidRun, function, WIDE, live_edges(net)[:1] + ((0, 0),))
        self.assertEqual(net_behind(WIDE, live_edges(net)[:1]), done(net, live_edges(net)[0]))


if __name__ == "__main__":
    unittest.main()
