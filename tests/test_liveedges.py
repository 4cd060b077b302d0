"""Live edges: [19] and [60], and that each node is in at most one: [3]."""

import random
import unittest

from sharefold.errors import InvalidEdge, InvalidNet
from sharefold.liveedges import edge_sort, live_edges
from sharefold.netshapes import is_net
from tests.net_oracle import slow_edges
from tests.net_samples import LETTER, Wires, nets_of_runs, random_net
from tests.samples import ODD_VALUES, T

SHARING = ["fan", "open", "box"]


def facing(kind, index, other, place):
    """A net of two nodes whose fronts are joined, below a call; None if no walk comes to both."""
    wires = Wires()
    holder = wires.node("call", 30)
    pair = [wires.node(kind, index), wires.node(other, place)]
    wires.join((pair[0], 0), (pair[1], 0))
    for node, port in zip(pair, [0, 2]):
        if len(wires.rows[node][2]) > 1:
            wires.join((holder, port), (node, 1))
    net = wires.net((holder, 1))
    return net if len(net[1]) == 3 else None


class LiveEdgesTest(unittest.TestCase):

    def sorts_of(self, kind, index, other, place):
        """The sorts of the edge of two nodes, each at either side."""
        found = []
        for row in [(kind, index, other, place), (other, place, kind, index)]:
            net = facing(*row)
            if net is not None:
                self.assertIs(is_net(net), True)
                edges = live_edges(net)
                self.assertLessEqual(len(edges), 1)
                found += [edge_sort(net, edge) for edge in edges] or [None]
        self.assertLessEqual(len(set(found)), 1)
        return found[0] if found else "unreached"

    def test_calls_and_funs(self):
        self.assertEqual(self.sorts_of("call", 3, "fun", 3), "call")
        self.assertIsNone(self.sorts_of("call", 3, "fun", 4))
        self.assertIsNone(self.sorts_of("call", 4, "fun", 3))
        self.assertIsNone(self.sorts_of("call", 3, "call", 3))
        self.assertIsNone(self.sorts_of("call", 3, "call", 2))
        self.assertIsNone(self.sorts_of("fun", 3, "fun", 3))
        self.assertIsNone(self.sorts_of("fun", 3, "fun", 2))

    def test_alike(self):
        for kind in SHARING:
            self.assertEqual(self.sorts_of(kind, 5, kind, 5), "alike")
            self.assertEqual(self.sorts_of(kind, 5, kind, 6), "unlike")

    def test_unlike(self):
        for kind in SHARING:
            for other in SHARING + ["call", "fun"]:
                for index, place in [(0, 39), (39, 0), (7, 8)]:
                    self.assertEqual(self.sorts_of(kind, index, other, place), "unlike")
                if other != kind:
                    self.assertIsNone(self.sorts_of(kind, 7, other, 7))

    def test_letters(self):
        for kind in SHARING:
            for index in [0, 39]:
                self.assertEqual(self.sorts_of(kind, index, "letter", "A"), "letter")
        self.assertIsNone(self.sorts_of("call", 0, "letter", "A"))

    def test_fronts_alone(self):
        # A call's argument that is a fun, a fan before an open's port 1, a letter at the root.
        wires = Wires()
        inner = wires.fun((wires.node("open", 0), 0))
        wires.join((1, 2), (0, 1))
        net = wires.net(wires.call(wires.letter(), inner))
        self.assertEqual(live_edges(net), ())
        self.assertEqual(live_edges(LETTER), ())
        self.assertEqual(live_edges(((), ())), ())

    def test_ascending(self):
        wires = Wires()
        parts = [wires.opens(wires.letter(), 2) for _ in range(3)]
        net = wires.net(wires.call(wires.call(*parts[:2]), parts[2]))
        self.assertEqual(live_edges(net), ((3, 4), (6, 7), (9, 10)))

    def test_like_all_pairs_of_nodes(self):
        dice = random.Random(101)
        found = 0
        for _ in range(400):
            net = random_net(dice, dice.randrange(1, 25), 3)
            edges = slow_edges(net)
            self.assertEqual(live_edges(net), tuple(edges))
            self.assertEqual({edge: edge_sort(net, edge) for edge in edges}, edges)
            nodes = [node for edge in edges for node in edge]
            self.assertEqual(len(nodes), len(set(nodes)))
            found += len(edges)
        self.assertGreater(found, 100)

    def test_nets_of_terms_and_behind_doings(self):
        dice = random.Random(102)
        for net in nets_of_runs(dice, 102, 30, 25, 10):
            self.assertEqual({edge: edge_sort(net, edge) for edge in live_edges(net)}, slow_edges(net))


class WrongArgumentsTest(unittest.TestCase):

    def test_no_net(self):
        for value in ODD_VALUES + [T, ((0, 0), ()), list(LETTER), ((0, False), LETTER[1])]:
            if value != ((), ()):
                self.assertRaises(InvalidNet, live_edges, value)
                self.assertRaises(InvalidNet, edge_sort, value, None)

    def test_no_live_edge(self):
        net = facing("open", 1, "fan", 2)
        self.assertEqual(live_edges(net), ((1, 2),))
        for value in ODD_VALUES + [(2, 1), (0, 1), (1, 2, 0), [1, 2], (True, 2), (1, 1), (1, 10 ** 100), ((1, 2),)]:
            self.assertRaises(InvalidEdge, edge_sort, net, value)
        self.assertRaises(InvalidEdge, edge_sort, facing("fan", 3, "open", 3), (1, 2))
        self.assertRaises(InvalidEdge, edge_sort, LETTER, (-1, 0))


if __name__ == "__main__":
    unittest.main()
