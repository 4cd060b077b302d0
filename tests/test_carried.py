"""Carried places: [24] and [66], and what [3] promises of them."""

import random
import unittest

from sharefold.carried import calls_through, carried_places
from sharefold.doings import done
from sharefold.errors import InvalidEdge, InvalidNet, NotRead
from sharefold.liveedges import edge_sort, live_edges
from sharefold.readings import places_of, read_term
from sharefold.steps import redexes
from sharefold.termnets import net_of
from tests.net_samples import LETTER, Wires, nets_of_runs
from tests.samples import A, I, ODD_VALUES, T, W, call, limit_of


class CarriedTest(unittest.TestCase):

    def test_places_are_then_those_that_are_told(self):
        dice = random.Random(161)
        found = {}
        for net in nets_of_runs(dice, 161, 80, 25, 20):
            for edge in live_edges(net):
                sort = edge_sort(net, edge)
                if sort == "call" or limit_of(done, net, edge) is not None:
                    continue
                behind = done(net, edge)
                self.assertEqual(carried_places(net, edge), places_of(behind))
                self.assertEqual(read_term(behind), read_term(net))
                found[sort] = found.get(sort, 0) + 1
        self.assertGreater(min(found[sort] for sort in ["alike", "unlike", "letter"]), 10)

    def test_a_letter_and_a_fan(self):
        wires = Wires()
        net = wires.net(wires.call(*wires.shared(wires.letter())))
        self.assertEqual(places_of(net), ((0, ()), (2, ((1, ()),)), (2, ((2, ()),))))
        self.assertEqual(carried_places(net, (1, 2)), ((0, ()), (1, ()), (2, ())))

    def stuck_name(self, opens):
        """A function that a fan is ahead of, whose name's context has no mark to go back through the fan."""
        wires = Wires()
        fun = wires.node("fun", 0)
        wires.node("fan", 1, p0=(fun, 1), p1=(fun, 2))
        out = (wires.node("fan", 1, p0=(fun, 0)), 1)
        net = wires.net(wires.opens(out, opens))
        self.assertEqual(read_term(net), I)
        return net, (opens, opens + 1)

    def test_no_way_through(self):
        for opens in [0, 3]:
            net, edge = self.stuck_name(opens)
            self.assertEqual(edge_sort(net, edge), "unlike")
            with self.assertRaises(NotRead) as caught:
                carried_places(net, edge)
            self.assertEqual(caught.exception.end, (opens, 0))

    def test_what_doing_raises_comes_behind(self):
        net, edge = self.stuck_name(596)
        self.assertEqual(len(net[1]), 599)
        self.assertEqual(limit_of(done, net, edge), 600)
        self.assertRaises(NotRead, carried_places, net, edge)

    def test_what_doing_raises(self):
        wires = Wires()
        fun = wires.fun((wires.node("open", 1), 1), 1)
        wires.join((0, 0), (1, 2))
        net = wires.net(wires.opens(wires.call(*wires.shared(fun)), 595))
        self.assertEqual(read_term(net), call(I, I))
        edge = [edge for edge in live_edges(net) if edge_sort(net, edge) == "unlike"][-1]
        self.assertEqual(limit_of(done, net, edge), 600)
        self.assertEqual(limit_of(carried_places, net, edge), 600)

    def test_readings_come_ahead(self):
        wires = Wires()
        net = wires.net(wires.call(wires.opens(wires.letter(), 1), ()))
        with self.assertRaises(NotRead) as caught:
            carried_places(net, (1, 2))
        self.assertEqual(caught.exception.end, ())
        wires = Wires()
        out = wires.letter()
        for _ in range(9):
            out = wires.call(*wires.shared(out))
        net = wires.net(out)
        edge = [edge for edge in live_edges(net) if edge_sort(net, edge) == "letter"][0]
        self.assertEqual(limit_of(carried_places, net, edge), 600)


class CallsThroughTest(unittest.TestCase):

    def test_redexes_at_one_call(self):
        net = net_of(T)
        self.assertEqual([calls_through(net, edge) for edge in live_edges(net)], [(0,), (5,)])
        net = net_of(call(W, call(I, A)))
        while [edge_sort(net, edge) for edge in live_edges(net)] != ["call"]:
            net = done(net, live_edges(net)[0])
            calls = [edge for edge in live_edges(net) if edge_sort(net, edge) == "call"]
            if calls and read_term(net) == call(call(I, A), call(I, A)):
                self.assertEqual(calls_through(net, calls[0]), (1, 5))
                return
        self.fail("never shared")

    def test_a_fun_with_a_lesser_number_than_the_call(self):
        # The walk comes to the fun by its names' way, from a fan that the reading leaves by its other port.
        wires = Wires()
        fun = wires.fun(wires.letter("B"))
        fan = wires.node("fan", 0, p1=wires.letter(), p2=(1, 2))
        one, _ = wires.shared((fan, 0))
        net = wires.net(wires.call(one, wires.call(fun, wires.letter("C"))))
        edge = [edge for edge in live_edges(net) if edge_sort(net, edge) == "call"][0]
        self.assertEqual([net[1][node][0] for node in edge], ["fun", "call"])
        self.assertEqual(read_term(net), call(A, call(("fun", ("letter", "B")), ("letter", "C"))))
        self.assertEqual(calls_through(net, edge), (2,))

    def test_each_is_a_redex(self):
        dice = random.Random(162)
        many = 0
        for net in nets_of_runs(dice, 162, 60, 25, 15):
            for edge in live_edges(net):
                if edge_sort(net, edge) == "call":
                    lot = calls_through(net, edge)
                    node = edge[0] if net[1][edge[0]][0] == "call" else edge[1]
                    self.assertEqual(lot, tuple([own for own, place in enumerate(places_of(net)) if place[0] == node]))
                    self.assertLessEqual(set(lot), set(redexes(read_term(net))))
                    many += len(lot) > 1
        self.assertGreater(many, 3)


class WrongArgumentsTest(unittest.TestCase):

    def test_nets_and_edges(self):
        for value in ODD_VALUES + [list(LETTER), ((0, False), LETTER[1])]:
            if value != ((), ()):
                self.assertRaises(InvalidNet, carried_places, value, value)
                self.assertRaises(InvalidNet, calls_through, value, value)
        net = net_of(call(I, A))
        for value in ODD_VALUES + [(1, 0), (0, 2), [0, 1], (0, True)]:
            self.assertRaises(InvalidEdge, carried_places, net, value)
            self.assertRaises(InvalidEdge, calls_through, net, value)

    def test_sorts_of_edges(self):
        net = net_of(call(I, A))
        self.assertRaises(InvalidEdge, carried_places, net, (0, 1))
        behind = done(net, (0, 1))
        self.assertEqual(edge_sort(behind, (0, 1)), "letter")
        self.assertRaises(InvalidEdge, calls_through, behind, (0, 1))
        # Whether the net can be read is asked behind this.
        wires = Wires()
        net = wires.net(wires.call(wires.fun(()), ()))
        self.assertRaises(InvalidEdge, carried_places, net, (0, 1))
        self.assertRaises(NotRead, calls_through, net, (0, 1))


if __name__ == "__main__":
    unittest.main()
