"""Readings of nets: [22] and [64], and what [3] promises of the nets of terms, and behind doings of them."""

import random
import unittest

from sharefold.errors import InvalidNet, NotRead, ShareError, TooMany
from sharefold.moves import moved
from sharefold.readings import is_reading, moves_of, places_of, read_term, stuck_at
from sharefold.termnets import net_of
from tests.net_oracle import SlowReading
from tests.net_samples import LETTER, ROOT, Wires, nets_of_runs, random_net
from tests.samples import A, B, I, ODD_VALUES, T, W, call, funs, limit_of, random_terms
from tests.test_contexts import ONE, TWO


def outcome(function, *arguments):
    """What a function returns, or the error that it raises with its attributes."""
    try:
        return function(*arguments)
    except ShareError as error:
        return type(error), vars(error)


class ReadTest(unittest.TestCase):

    def agrees(self, net):
        slow = outcome(SlowReading, net)
        found = [outcome(function, net) for function in [read_term, places_of, moves_of, stuck_at]]
        if isinstance(slow, tuple):
            self.assertEqual(found, [slow] * 3 + [slow[1]["end"] if slow[0] == NotRead else slow])
            self.assertEqual(outcome(is_reading, net, None), slow)
            return slow[0]
        self.assertEqual(found, [slow.term, tuple(slow.places), slow.moves, None])
        self.assertIs(is_reading(net, (slow.term, tuple(slow.places))), True)
        return "read"

    def test_nets_of_terms(self):
        for term in random_terms(141, 150, 40) + [T, A, I, call(W, W)]:
            if limit_of(net_of, term) is None:
                self.assertEqual(read_term(net_of(term)), term)
                self.assertEqual(self.agrees(net_of(term)), "read")
                self.assertIsNone(stuck_at(net_of(term)))

    def test_nets_behind_doings(self):
        dice = random.Random(142)
        for net in nets_of_runs(dice, 142, 60, 25, 15):
            self.assertNotEqual(self.agrees(net), NotRead)

    def test_any_nets(self):
        dice = random.Random(143)
        found = {}
        for _ in range(400):
            way = self.agrees(random_net(dice, dice.randrange(1, 14), 2))
            found[way] = found.get(way, 0) + 1
        self.assertGreater(found["read"], 10)
        self.assertGreater(found[NotRead], 150)

    def test_parts_are_read_with_the_context_of_the_call(self):
        wires = Wires()
        one, other = wires.shared(wires.letter("B"))
        net = wires.net(wires.call(one, other))
        self.assertEqual(places_of(net), ((0, ()), (2, (ONE,)), (2, (TWO,))))
        self.assertEqual(moves_of(net), 5)


class NamesTest(unittest.TestCase):

    def names(self, index, level):
        """A function at a node with an index, read in itself by a fan at a level, and its name."""
        wires = Wires()
        fun = wires.node("fun", index)
        one, other = wires.shared((fun, 0), level)
        wires.node("fan", level, p0=(fun, 1), p1=other, p2=(fun, 2))
        return wires.net(one)

    def test_two_functions_read_at_one_node(self):
        # With the index 0 all levels may be unlike, so both functions fit.
        net = self.names(0, 0)
        self.assertEqual(stuck_at(net), (1, 2))
        self.assertRaises(NotRead, read_term, net)
        # With the index 1 the first level of neither is as it is at the name, in the fan at level 0.
        self.assertEqual(stuck_at(self.names(1, 0)), (1, 2))
        self.assertEqual(stuck_at(self.names(1, 1)), (1, 2))

    def test_levels_below_the_index_alone_are_asked(self):
        for index in range(4):
            for level in range(4):
                wires = Wires()
                fun = wires.node("fun", index)
                one, other = wires.shared((fun, 2), level)
                wires.join((fun, 1), wires.call(one, other))
                net = wires.net((fun, 0))
                # The names' contexts have marks at the level, the function's has none.
                if level < index:
                    self.assertEqual(stuck_at(net), (0, 2))
                else:
                    self.assertEqual(read_term(net), W)

    def test_no_function_around(self):
        wires = Wires()
        fun = wires.fun(wires.letter())
        net = wires.net(wires.call((1, 2), fun))
        self.assertEqual(stuck_at(net), (1, 2))


class StuckTest(unittest.TestCase):

    def test_ends(self):
        for kind, index, port in [("call", 0, 0), ("call", 0, 2), ("fun", 0, 1), ("fan", 0, 0)]:
            wires = Wires()
            net = wires.net(wires.fun((wires.node(kind, index), port)))
            self.assertEqual(stuck_at(net), (1, port))
            for function in [read_term, places_of, moves_of]:
                with self.assertRaises(NotRead) as caught:
                    function(net)
                self.assertEqual(caught.exception.end, (1, port))

    def test_a_way_back_to_the_port_for_the_body(self):
        # The function's mark is taken off by a fan, which leads back to itself, and then to the function.
        wires = Wires()
        fun = wires.node("fun", 0)
        fan = wires.node("fan", 0, p0=(fun, 1))
        wires.join((fan, 1), (fan, 2))
        net = wires.net(wires.shared((fun, 0))[0])
        self.assertEqual(stuck_at(net), (1, 1))

    def test_levels(self):
        for kind, inner in [("open", "fan"), ("box", "fan"), ("fan", "open")]:
            wires = Wires()
            node = wires.node(kind, 0, p1=wires.letter())
            last = wires.node(inner, 0, p0=(node, 0))
            net = wires.net((last, 1))
            self.assertEqual(stuck_at(net), (1, 0))

    def test_nothing(self):
        self.assertEqual(stuck_at(((), ())), ())
        wires = Wires()
        self.assertEqual(stuck_at(wires.net(wires.call((), ()))), ())
        wires = Wires()
        self.assertEqual(stuck_at(wires.net(wires.call(wires.letter(), ()))), ())
        with self.assertRaises(NotRead) as caught:
            read_term(((), ()))
        self.assertEqual(caught.exception.end, ())

    def test_no_reading_comes_back_to_the_root(self):
        # It would have to come to where it began by a way that is its own, turned round.
        dice = random.Random(144)
        for _ in range(300):
            net = random_net(dice, dice.randrange(1, 12), 2)
            self.assertNotEqual(outcome(stuck_at, net), ROOT)
        wires = Wires()
        node = wires.node("open", 3)
        self.assertEqual(moved(wires.net((node, 1)), (0, 0), ())[1], ROOT)


class IsReadingTest(unittest.TestCase):

    def test_spoilt_at_each_place(self):
        net = net_of(call(W, A))
        term, places = read_term(net), places_of(net)
        self.assertIs(is_reading(net, (term, places)), True)
        for value in ODD_VALUES + [term, places, [term, places], (term, list(places)), (term, places, 0), (places, term),
                                   (term, places[:-1]), (term, places + places[:1]), (call(W, B), places), (term, ())]:
            self.assertIs(is_reading(net, value), False)
        for at, (node, context) in enumerate(places):
            for own in [(node + 1, context), (node, context + (ONE,)), [node, context], (node, list(context)), (node,),
                        (bool(node), context), (node, tuple([(True, level[1]) for level in context]) or [])]:
                self.assertIs(is_reading(net, (term, places[:at] + (own,) + places[at + 1:])), False)
        self.assertIs(is_reading(net, (("call", ("fun", ("call", ("name", False), ("name", 0))), A), places)), False)

    def test_nets_that_cannot_be_read(self):
        for value in ODD_VALUES:
            self.assertRaises(NotRead, is_reading, ((), ()), value)


class TooGreatTest(unittest.TestCase):

    def doubled(self, wires, many, out):
        """A call both parts of which are shared, so many times."""
        for _ in range(many):
            out = wires.call(*wires.shared(out))
        return out

    def test_600_nodes_and_one_more(self):
        for leaves, extra, expected in [(44, 1, 600), (44, 0, 599), (45, 0, None), (44, 2, None)]:
            wires = Wires()
            out = wires.call(self.doubled(wires, 8, wires.letter()), wires.tree(leaves))
            for _ in range(extra):
                out = wires.fun(out)
            net = wires.net(out)
            if expected is None:
                for function in [read_term, places_of, moves_of, stuck_at]:
                    self.assertEqual(limit_of(function, net), 600)
                self.assertEqual(limit_of(is_reading, net, None), 600)
            else:
                self.assertEqual(len(places_of(net)), expected)

    def test_a_height_of_60_and_one_more(self):
        for many, expected in [(59, None), (60, 60)]:
            wires = Wires()
            out = wires.letter()
            for _ in range(many):
                out = wires.fun(out)
            net = wires.net(out)
            self.assertEqual([limit_of(function, net) for function in [read_term, stuck_at]], [expected] * 2)
        self.assertEqual(read_term(net_of(funs(59, A))), funs(59, A))

    def limits(self, net):
        """What all functions that read a net raise, once."""
        found = [outcome(function, net) for function in [read_term, places_of, moves_of, stuck_at]]
        found.append(outcome(is_reading, net, None))
        self.assertEqual(found, found[:1] * 5)
        return found[0][1]["limit"] if isinstance(found[0], tuple) and found[0][0] == TooMany else None

    def many_moves(self, wires, opens):
        """A tree of 511 nodes; its reading makes 510 + 255 + 256 * (opens + 1) moves."""
        return self.doubled(wires, 8, wires.opens(wires.letter(), opens))

    def test_20000_moves_and_one_more(self):
        wires = Wires()
        net = wires.net(wires.opens(self.many_moves(wires, 73), 291))
        self.assertEqual(moves_of(net), 20000)
        self.assertIsNone(stuck_at(net))
        wires = Wires()
        net = wires.net(wires.opens(self.many_moves(wires, 73), 292))
        self.assertEqual(self.limits(net), 20000)

    def test_moves_come_ahead_of_nodes(self):
        for opens, limit in [(201, 600), (202, 20000)]:
            wires = Wires()
            out = wires.call(self.many_moves(wires, 73), wires.tree(45))
            self.assertEqual(self.limits(wires.net(wires.opens(out, opens))), limit)

    def test_moves_come_ahead_of_what_is_stuck(self):
        for opens in [288, 289, 290]:
            wires = Wires()
            last = wires.node("fan", 0, p1=wires.letter())
            out = wires.call(self.many_moves(wires, 73), wires.opens((last, 0), opens))
            net = wires.net(out)
            if opens == 290:
                self.assertEqual(self.limits(net), 20000)
            else:
                self.assertEqual(net[1][stuck_at(net)[0]][:2], ("fan", 0))

    def last_one(self, leaves, deep, name):
        """A net whose last node is a letter, or a name without a function, in so many functions."""
        wires = Wires()
        fun = wires.fun(wires.call(self.doubled(wires, 8, wires.letter()), wires.tree(leaves)))
        out = (fun[0], 2) if name else wires.letter()
        for _ in range(deep):
            out = wires.fun(out)
        return wires.net(wires.call(fun, out))

    def test_nodes_come_ahead_of_the_height_and_both_ahead_of_what_is_stuck(self):
        # The last node is that with the number 514 + 2 * leaves + deep, from 1 on, at the height deep + 2.
        for leaves, deep, limit in [(14, 58, None), (14, 59, 600), (13, 59, 60), (13, 58, None), (15, 57, 600)]:
            self.assertEqual(limit_of(read_term, self.last_one(leaves, deep, False)), limit)
            net = self.last_one(leaves, deep, True)
            if limit is None:
                self.assertEqual(stuck_at(net)[1], 2)
            else:
                self.assertEqual(self.limits(net), limit)

    def test_what_comes_first(self):
        wires = Wires()
        high = wires.letter()
        for _ in range(60):
            high = wires.fun(high)
        wide = self.doubled(wires, 9, wires.letter())
        self.assertEqual(self.limits(wires.net(wires.call(high, wide))), 60)
        wires = Wires()
        high = wires.letter()
        for _ in range(60):
            high = wires.fun(high)
        wide = self.doubled(wires, 9, wires.letter())
        self.assertEqual(self.limits(wires.net(wires.call(wide, high))), 600)
        # Where it is stuck ahead of what is too great, it is stuck.
        wires = Wires()
        wide = self.doubled(wires, 9, wires.letter())
        self.assertEqual(stuck_at(wires.net(wires.call((), wide))), ())


class WrongArgumentsTest(unittest.TestCase):

    def test_no_net(self):
        for value in ODD_VALUES + [T, list(LETTER), ((0, 0), ()), ((0, False), LETTER[1])]:
            if value != ((), ()):
                for function in [read_term, places_of, moves_of, stuck_at]:
                    self.assertRaises(InvalidNet, function, value)
                self.assertRaises(InvalidNet, is_reading, value, value)


if __name__ == "__main__":
    unittest.main()
