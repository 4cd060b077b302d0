"""The doing of live edges: [19] and [61], and that two of them are done in either order: [3]."""

import random
import unittest

from sharefold.doings import done, done_paper, is_done_paper
from sharefold.errors import InvalidEdge, InvalidNet
from sharefold.liveedges import edge_sort, live_edges
from sharefold.netshapes import is_net
from sharefold.termnets import net_of
from tests.net_oracle import slow_doing, slow_edges
from tests.net_samples import LETTER, ROOT, Wires, nets_of_runs, random_net
from tests.samples import A, I, ODD_VALUES, T, call, limit_of
from tests.test_liveedges import facing


class DoneTest(unittest.TestCase):

    def test_a_call_and_a_fun(self):
        net = net_of(call(I, A))
        self.assertEqual(done_paper(net, (0, 1)), (
            ((0, 1), (("open", 0, ((1, 0), ROOT)), ("letter", "A", ((0, 0),)))), ((2, 0), (3, 0))))

    def test_what_is_joined_to_nothing(self):
        # A fun without names drops the call's argument.
        net = net_of(call(("fun", ("letter", "B")), A))
        self.assertEqual(done_paper(net, (0, 1)), (((0, 0), (("letter", "B", (ROOT,)),)), ((2, 0),)))

    def joined_fronts(self, kind, other, index, place, **joints):
        """A net of two nodes, 0 and 1, with joined fronts; joints tell what else is joined."""
        wires = Wires()
        wires.node(kind, index)
        wires.node(other, place)
        wires.join((0, 0), (1, 0))
        for end, partner in joints.items():
            wires.join((int(end[1]), int(end[2])), partner)
        return wires

    def test_alike(self):
        for kind in ["open", "box"]:
            wires = self.joined_fronts(kind, kind, 4, 4)
            wires.join((1, 1), wires.letter())
            self.assertEqual(done_paper(wires.net((0, 1)), (0, 1)), (((0, 0), (("letter", "A", (ROOT,)),)), ((2, 0),)))
        for port, sign in [(1, "A"), (2, "B")]:
            wires = self.joined_fronts("fan", "fan", 4, 4)
            wires.join((1, 1), wires.letter("A"))
            wires.join((1, 2), wires.letter("B"))
            self.assertEqual(done_paper(wires.net((0, port)), (0, 1)),
                             (((0, 0), (("letter", sign, (ROOT,)),)), ((port + 1, 0),)))

    def test_joinings_go_on_through_ports_that_go(self):
        # Both ports of the one are joined to each other: those of the other one's partners are, then.
        wires = self.joined_fronts("fan", "fan", 4, 4)
        wires.join((1, 1), (1, 2))
        self.assertEqual(done(wires.net((0, 1)), (0, 1)), ((), ()))
        wires.join((0, 2), wires.letter())
        self.assertEqual(done(wires.net((0, 1)), (0, 1)), LETTER)
        # Port 1 of the one is joined to port 2 of the other one.
        wires = self.joined_fronts("fan", "fan", 4, 4, e01=(1, 2))
        wires.join((1, 1), wires.letter())
        self.assertEqual(done(wires.net((0, 2)), (0, 1)), LETTER)

    def test_joinings_that_come_back_to_themselves_alone_are_gone(self):
        wires = self.joined_fronts("fan", "fan", 4, 4, e02=(1, 2))
        wires.join((1, 1), wires.letter())
        self.assertEqual(done(wires.net((0, 1)), (0, 1)), LETTER)
        wires = self.joined_fronts("call", "fun", 0, 0, e02=(1, 2))
        wires.join((1, 1), wires.letter())
        self.assertEqual(done(wires.net((0, 1)), (0, 1)), LETTER)
        wires = self.joined_fronts("call", "fun", 0, 0, e12=(1, 1))
        wires.join((0, 2), wires.letter())
        self.assertEqual(done(wires.net((0, 1)), (0, 1)), LETTER)

    def test_the_root(self):
        wires = self.joined_fronts("call", "fun", 0, 0)
        wires.join((0, 2), wires.letter())
        self.assertEqual(done_paper(wires.net((0, 1)), (0, 1)), (((), ()), ()))
        wires = self.joined_fronts("open", "box", 1, 2)
        self.assertEqual(done(wires.net((0, 1)), (0, 1)),
                         ((0, 0), (("box", 1, (ROOT, (1, 1))), ("open", 1, ((), (0, 1))))))

    def test_indices_of_copies(self):
        for kind, shift in [("fan", 0), ("open", -1), ("box", 1)]:
            for other in ["fan", "open", "box", "call", "fun"]:
                net = facing(kind, 3, other, 7)
                if net is None:
                    net = facing(other, 7, kind, 3)
                edge = live_edges(net)[0]
                behind, origins = done_paper(net, edge)
                kinds = [net[1][node][0] for node in edge]
                for (own, index, _), (node, port) in zip(behind[1], origins):
                    if node in edge:
                        least = net[1][node][:2] == (kind, 3)
                        self.assertEqual((own, index), (kind, 3) if least else (other, 7 + shift))
                        self.assertIn(port, [1, 2])
                self.assertEqual(sorted(kinds), sorted([kind, other]))

    def test_a_letter_is_told_with_the_index_of_the_letter(self):
        for kind, many in [("fan", 2), ("open", 1), ("box", 1)]:
            wires = Wires()
            node = wires.node(kind, 6, p0=wires.letter("Q"))
            top = wires.call((node, 1), (node, 2)) if many == 2 else (node, 1)
            net = wires.net(top)
            behind, origins = done_paper(net, live_edges(net)[0])
            letter = [row[0] for row in net[1]].index("letter")
            self.assertEqual([row[:2] for row in behind[1]][-many:], [("letter", "Q")] * many)
            self.assertEqual(origins[-many:], tuple([(letter, port + 1) for port in range(many)]))

    def test_ports_of_one_node_that_are_joined(self):
        # The two other ports of a fan: what comes for the one is joined to what comes for the other one.
        wires = Wires()
        fan = wires.node("fan", 2)
        wires.join((fan, 1), (fan, 2))
        wires.join((fan, 0), (wires.node("box", 5), 0))
        net = wires.net((1, 1))
        self.assertEqual(done_paper(net, (0, 1)), slow_doing(net, (0, 1)))
        kinds = [row[:2] for row in done(net, (0, 1))[1]]
        self.assertEqual(kinds, [("fan", 2), ("box", 5), ("box", 5)])

    def test_like_the_doing_as_it_is_told(self):
        dice = random.Random(111)
        found = {}
        for _ in range(600):
            net = random_net(dice, dice.randrange(1, 16), 3)
            for edge, sort in slow_edges(net).items():
                self.assertEqual(done_paper(net, edge), slow_doing(net, edge))
                self.assertEqual(done(net, edge), slow_doing(net, edge)[0])
                self.assertIs(is_net(done(net, edge)), True)
                found[sort] = found.get(sort, 0) + 1
        self.assertGreater(min(found.get(sort, 0) for sort in ["call", "alike", "unlike", "letter"]), 15)

    def test_nets_behind_doings_of_terms(self):
        dice = random.Random(112)
        for net in nets_of_runs(dice, 112, 40, 25, 12):
            for edge in live_edges(net):
                self.assertEqual(done_paper(net, edge), slow_doing(net, edge))

    def test_two_in_either_order(self):
        dice = random.Random(113)
        tried = 0
        for net in nets_of_runs(dice, 113, 60, 25, 12):
            edges = live_edges(net)
            for edge, other in zip(edges, edges[1:]):
                behind, origins = done_paper(net, edge)
                aside, others = done_paper(net, other)
                first, last = [(node, 0) for node in edge], [(node, 0) for node in other]
                if all(own in origins for own in last) and all(own in others for own in first):
                    tried += 1
                    then = tuple(sorted(origins.index(own) for own in last))
                    there = tuple(sorted(others.index(own) for own in first))
                    self.assertEqual(done(behind, then), done(aside, there))
        self.assertGreater(tried, 50)


class IsDonePaperTest(unittest.TestCase):

    def test_papers(self):
        net = net_of(call(I, A))
        paper = done_paper(net, (0, 1))
        self.assertIs(is_done_paper(net, (0, 1), paper), True)
        (root, nodes), origins = paper
        for value in ODD_VALUES + [
                list(paper), (list(paper[0]), origins), ((root, nodes), list(origins)), ((root, nodes[:1]), origins),
                ((root, nodes), origins[:1]), ((root, nodes), ((2, 0), (3, 1))), ((root, nodes), ((2, False), (3, 0))),
                (((0, True), nodes), origins), ((root, nodes), origins, 0), ((root, nodes[::-1]), origins),
                ((root, (nodes[0], ("letter", "B", nodes[1][2]))), origins),
                ((root, (("open", False, nodes[0][2]), nodes[1])), origins)]:
            self.assertIs(is_done_paper(net, (0, 1), value), False, value)


class TooGreatTest(unittest.TestCase):

    def fans(self, many):
        """A net of so many nodes, 30 or more; the doing of the edge of its fans makes it two more."""
        wires = Wires()
        fan = wires.node("fan", 1)
        other = wires.node("fan", 2, p0=(fan, 0))
        parts = [wires.letter(sign) for sign in "AB"]
        for port, part in zip((1, 2), parts):
            wires.join((other, port), part)
        top = wires.call((fan, 1), (fan, 2))
        net = wires.net(wires.opens(top, many - 5))
        self.assertEqual(len(net[1]), many)
        return net, [edge for edge in live_edges(net) if edge_sort(net, edge) == "unlike"][0]

    def test_600_nodes_and_one_more(self):
        self.assertEqual(len(done(*self.fans(598))[1]), 600)
        self.assertEqual(limit_of(done, *self.fans(599)), 600)
        self.assertEqual(limit_of(done_paper, *self.fans(600)), 600)
        self.assertEqual(limit_of(is_done_paper, *self.fans(600), None), 600)

    def boxed(self, index, other, more):
        """A net with the edge of a box and of a box or fan, and so many more nodes."""
        wires = Wires()
        box = wires.node("box", index)
        last = wires.node("fan", other, p0=(box, 0))
        wires.join((last, 1), wires.letter("A"))
        wires.join((last, 2), wires.letter("B"))
        net = wires.net(wires.opens((box, 1), more))
        return net, live_edges(net)[0]

    def test_an_index_of_39_and_one_more(self):
        self.assertEqual(max(row[1] for row in done(*self.boxed(0, 38, 0))[1] if row[0] == "fan"), 39)
        self.assertEqual(limit_of(done, *self.boxed(0, 39, 0)), 39)
        self.assertEqual(limit_of(done, *self.boxed(38, 39, 0)), 39)
        # This makes the net one node greater.
        self.assertEqual(len(done(*self.boxed(0, 38, 595))[1]), 600)
        self.assertEqual(limit_of(done, *self.boxed(0, 39, 595)), 39)
        self.assertEqual(limit_of(done, *self.boxed(0, 39, 596)), 600)

    def test_what_the_walk_does_not_come_to_does_not_count(self):
        def dropped(many):
            # The fun has no names, so that of its copies' fans only one is come to.
            wires = Wires()
            fun = wires.fun(wires.letter(), 1)
            fan = wires.node("fan", 2, p0=fun)
            net = wires.net(wires.opens(wires.call((fan, 1), (fan, 2)), many - 4))
            self.assertEqual(len(net[1]), many)
            return net, [edge for edge in live_edges(net) if edge_sort(net, edge) == "unlike"][0]

        self.assertEqual(len(done(*dropped(599))[1]), 600)
        self.assertEqual(limit_of(done, *dropped(600)), 600)

    def test_joinings_of_600_nodes(self):
        wires = Wires()
        body = wires.opens(wires.letter(), 597)
        net = wires.net(wires.call(wires.fun(body), ()))
        self.assertEqual(len(net[1]), 600)
        self.assertEqual(len(done(net, (0, 1))[1]), 598)


class WrongArgumentsTest(unittest.TestCase):

    def test_no_net_no_edge(self):
        net = net_of(call(I, A))
        for function in [done, done_paper]:
            for value in ODD_VALUES + [T, list(net), (net[0], net[1][::-1])]:
                if value != ((), ()):
                    self.assertRaises(InvalidNet, function, value, value)
                    self.assertRaises(InvalidNet, is_done_paper, value, (0, 1), None)
            for value in ODD_VALUES + [(1, 0), (0, 2), [0, 1], (0, True), (False, 1), (0, 1, 2)]:
                self.assertRaises(InvalidEdge, function, net, value)
                self.assertRaises(InvalidEdge, is_done_paper, net, value, None)


if __name__ == "__main__":
    unittest.main()
