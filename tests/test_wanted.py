"""Passed edges, and the wanted one: [23] and [65], and what [3] promises of the fronts that are passed."""

import random
import unittest

from sharefold.doings import done
from sharefold.errors import InvalidEdge, InvalidNet, NotRead, ShareError
from sharefold.liveedges import edge_sort, live_edges
from sharefold.steps import leftmost
from sharefold.termnets import net_of
from sharefold.wanted import passed_by, passed_edges, wanted_edge, wanted_way
from tests.net_oracle import SlowReading, slow_edges
from tests.net_samples import LETTER, Wires, nets_of_runs, random_net
from tests.samples import A, I, ODD_VALUES, T, W, call, limit_of, random_terms


def fronts(hops):
    """The pairs of nodes whose fronts are passed, hop by hop."""
    return [tuple(sorted([left[0], end[0]])) for left, end in hops if left[0] >= 0 and left[1] == end[1] == 0]


class PassedTest(unittest.TestCase):

    def agrees(self, net):
        reading, live = SlowReading(net), slow_edges(net)
        ways = [[edge for edge in fronts(hops) if edge in live] for hops in reading.hops]
        self.assertEqual(passed_edges(net), tuple(dict.fromkeys(edge for way in ways for edge in way)))
        for edge in live:
            self.assertEqual(passed_by(net, edge), tuple([node for node, way in enumerate(ways) if edge in way]))
        redex = leftmost(reading.term)
        if redex is None:
            self.assertEqual((wanted_edge(net), wanted_way(net)), (None, None))
            return
        self.assertEqual(wanted_edge(net), (ways[redex + 1] + [None])[0])
        passes = tuple([(end[0], "out" if end[1] else "in") for _, end in reading.hops[redex + 1][:-1]])
        self.assertEqual(wanted_way(net), (redex, passes))

    def test_nets_of_terms(self):
        for term in random_terms(151, 60, 40) + [T, A, I, call(W, W)]:
            if limit_of(net_of, term) is None:
                self.agrees(net_of(term))

    def test_nets_behind_doings(self):
        dice = random.Random(152)
        for net in nets_of_runs(dice, 152, 50, 25, 15):
            self.agrees(net)

    def test_any_nets(self):
        dice = random.Random(153)
        read = 0
        for _ in range(900):
            net = random_net(dice, dice.randrange(1, 14), 2)
            try:
                SlowReading(net)
            except ShareError:
                continue
            self.agrees(net)
            read += 1
        self.assertGreater(read, 15)

    def test_fronts_that_are_passed_are_live_but_for_calls_of_letters(self):
        dice = random.Random(154)
        for net in nets_of_runs(dice, 154, 50, 25, 15):
            live = live_edges(net)
            for hops in SlowReading(net).hops:
                for edge in fronts(hops):
                    kinds = sorted([net[1][node][0] for node in edge])
                    self.assertTrue(edge in live or kinds == ["call", "letter"])

    def test_from_the_root(self):
        wires = Wires()
        net = wires.net(wires.opens(wires.letter(), 1))
        self.assertEqual(passed_edges(net), ((0, 1),))
        self.assertEqual(passed_by(net, (0, 1)), (0,))

    def test_either_way_and_as_often_as_it_is(self):
        net = net_of(call(W, A))
        while len(live_edges(net)) == 1 and edge_sort(net, live_edges(net)[0]) == "call":
            net = done(net, live_edges(net)[0])
        edge = live_edges(net)[-1]
        self.assertEqual(edge_sort(net, edge), "letter")
        self.assertEqual(passed_edges(net), (edge,))
        self.assertEqual(passed_by(net, edge), (1, 2))
        # A fan before a fan that is alike is passed from the one to the other, and back.
        wires = Wires()
        fan = wires.node("fan", 0)
        other = wires.node("fan", 0, p0=(fan, 0))
        wires.join((other, 1), wires.call((fan, 2), wires.letter()))
        wires.join((other, 2), wires.letter("B"))
        net = wires.net((fan, 1))
        self.assertEqual(passed_edges(net), ((0, 1),))
        self.assertEqual(passed_by(net, (0, 1)), (0, 1))


class WantedTest(unittest.TestCase):

    def test_the_least_redex_alone(self):
        self.assertEqual(wanted_edge(net_of(T)), (0, 1))
        self.assertEqual(wanted_way(net_of(T)), (0, ()))
        net = net_of(call(A, call(I, A), call(I, A)))
        self.assertEqual(wanted_way(net)[0], 3)
        self.assertEqual(edge_sort(net, wanted_edge(net)), "call")

    def test_none(self):
        for term in [A, I, W, call(A, I)]:
            self.assertIsNone(wanted_edge(net_of(term)))
            self.assertIsNone(wanted_way(net_of(term)))
        # A call and a fun of unlike indices: a redex, but no live edge.
        wires = Wires()
        net = wires.net(wires.call(wires.fun(wires.letter(), 1), wires.letter(), 0))
        self.assertIsNone(wanted_edge(net))
        self.assertEqual(wanted_way(net), (0, ()))

    def test_passes(self):
        wires = Wires()
        fun = wires.fun(wires.letter(), 2)
        box = wires.node("box", 1, p0=fun)
        other = wires.node("box", 1, p1=(box, 1))
        net = wires.net(wires.call((other, 0), wires.letter("B"), 2))
        self.assertEqual(wanted_way(net), (0, ((1, "in"), (2, "out"))))
        self.assertEqual(wanted_edge(net), (0, 1))
        self.assertEqual(passed_edges(net), ((0, 1), (2, 3)))


class WrongArgumentsTest(unittest.TestCase):

    def test_nets_and_edges(self):
        for value in ODD_VALUES + [T, list(LETTER), ((0, False), LETTER[1])]:
            if value != ((), ()):
                for function in [passed_edges, wanted_edge, wanted_way]:
                    self.assertRaises(InvalidNet, function, value)
                self.assertRaises(InvalidNet, passed_by, value, value)
        net = net_of(call(I, A))
        for value in ODD_VALUES + [(1, 0), (0, 2), [0, 1], (0, True)]:
            self.assertRaises(InvalidEdge, passed_by, net, value)

    def test_nets_that_cannot_be_read(self):
        for function in [passed_edges, wanted_edge, wanted_way]:
            self.assertRaises(NotRead, function, ((), ()))
        wires = Wires()
        net = wires.net(wires.call(wires.opens(wires.letter(), 1), ()))
        self.assertRaises(InvalidEdge, passed_by, net, (0, 1))
        with self.assertRaises(NotRead) as caught:
            passed_by(net, (1, 2))
        self.assertEqual(caught.exception.end, ())

    def test_readings_that_are_too_great(self):
        wires = Wires()
        out = wires.letter()
        for _ in range(9):
            out = wires.call(*wires.shared(out))
        net = wires.net(out)
        for function in [passed_edges, wanted_edge, wanted_way]:
            self.assertEqual(limit_of(function, net), 600)
        self.assertEqual(limit_of(passed_by, net, live_edges(net)[0]), 600)


if __name__ == "__main__":
    unittest.main()
