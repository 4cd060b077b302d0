"""Moves of readings: [21] and [63]."""

import random
import unittest

from sharefold.errors import InvalidContext, InvalidEnd, InvalidNet
from sharefold.moves import moved, walked
from sharefold.termnets import net_of
from tests.net_oracle import passed
from tests.net_samples import LETTER, PORTS, ROOT, Wires, random_net
from tests.samples import A, I, ODD_VALUES, T, call, limit_of
from tests.test_contexts import ONE, PAIR, TWO, marks, random_context


def sharing(kind, index):
    """A net of a node with letters at its ports, and its front at a call; and its number."""
    wires = Wires()
    node = wires.node(kind, index)
    for port in range(1, PORTS[kind]):
        wires.join((node, port), wires.letter())
    return wires.net(wires.call((node, 0), ())), 1


class MovedTest(unittest.TestCase):

    def test_met_at_whichever_port(self):
        net = net_of(call(("fun", ("name", 0)), A))
        for end in [(0, 0), (0, 1), (0, 2), (1, 0), (1, 1), (1, 2), (3, 0)]:
            for context in [(), (ONE, TWO)]:
                self.assertEqual(moved(net, end, context), ("met", end, context))
                self.assertEqual(walked(net, end, context), ("met", end, context, 1))

    def test_a_fan(self):
        net, fan = sharing("fan", 1)
        self.assertEqual(moved(net, (fan, 1), (TWO,)), ("on", (0, 0), (TWO, ONE)))
        self.assertEqual(moved(net, (fan, 2), ((), ONE)), ("on", (0, 0), ((), (2, ONE))))
        self.assertEqual(moved(net, (fan, 0), (TWO, ONE)), ("on", (2, 0), (TWO,)))
        self.assertEqual(moved(net, (fan, 0), ((), (2, PAIR))), ("on", (3, 0), ((), PAIR)))
        for context in [(), (ONE,), ((), PAIR), ((), (), ONE)]:
            self.assertEqual(moved(net, (fan, 0), context), ("stuck", (fan, 0), context))
            self.assertEqual(walked(net, (fan, 0), context), ("stuck", (fan, 0), context, 1))

    def test_an_open(self):
        net, node = sharing("open", 1)
        self.assertEqual(moved(net, (node, 1), (ONE, TWO)), ("on", (0, 0), (ONE, (), TWO)))
        self.assertEqual(moved(net, (node, 0), (ONE, (), TWO)), ("on", (2, 0), (ONE, TWO)))
        self.assertEqual(moved(net, (node, 0), (ONE,)), ("on", (2, 0), (ONE,)))
        self.assertEqual(moved(net, (node, 0), (ONE, TWO)), ("stuck", (node, 0), (ONE, TWO)))
        self.assertEqual(moved(net, (node, 0), (ONE, PAIR)), ("stuck", (node, 0), (ONE, PAIR)))

    def test_a_box(self):
        net, node = sharing("box", 1)
        self.assertEqual(moved(net, (node, 1), (ONE, TWO, PAIR)), ("on", (0, 0), (ONE, ("pair", TWO, PAIR))))
        self.assertEqual(moved(net, (node, 1), (ONE,)), ("on", (0, 0), (ONE,)))
        self.assertEqual(moved(net, (node, 0), (ONE, PAIR, TWO)), ("on", (2, 0), (ONE, ONE, (), TWO)))
        self.assertEqual(moved(net, (node, 0), (ONE, (), TWO)), ("on", (2, 0), (ONE, (), (), TWO)))
        self.assertEqual(moved(net, (node, 0), (ONE, TWO)), ("stuck", (node, 0), (ONE, TWO)))

    def test_nothing_and_the_root(self):
        wires = Wires()
        node = wires.node("open", 0)
        net = wires.net((node, 1))
        self.assertEqual(moved(net, (0, 1), ()), ("on", (), ()))
        self.assertEqual(moved(net, (0, 0), ()), ("on", ROOT, ()))
        self.assertEqual(walked(net, (0, 1), (ONE,)), ("stuck", (), ((), ONE), 1))
        self.assertEqual(walked(net, (0, 0), ((), ONE)), ("stuck", ROOT, (ONE,), 1))
        wires = Wires()
        net = wires.net(wires.opens(wires.letter(), 2))
        self.assertEqual(walked(net, (1, 0), ()), ("stuck", ROOT, (), 2))

    def test_contexts_that_come_may_be_greater(self):
        net, node = sharing("open", 0)
        self.assertEqual(moved(net, (node, 1), (ONE,) * 100)[2], ((),) + (ONE,) * 100)
        net, node = sharing("fan", 0)
        self.assertEqual(moved(net, (node, 1), (marks(40),))[2], (marks(41),))

    def test_like_moves_as_they_are_told(self):
        dice = random.Random(131)
        found = {}
        for _ in range(300):
            net = random_net(dice, dice.randrange(2, 14), 3)
            for node, (kind, index, ends) in enumerate(net[1]):
                for port in range(PORTS[kind]):
                    context = random_context(dice)
                    if kind in ("call", "fun", "letter"):
                        expected = ("met", (node, port), context)
                    else:
                        try:
                            out, behind = passed(kind, index, port, context)
                            expected = ("on", ends[out], behind)
                        except ValueError:
                            expected = ("stuck", (node, port), context)
                    self.assertEqual(moved(net, (node, port), context), expected)
                    found[expected[0]] = found.get(expected[0], 0) + 1
        self.assertGreater(min(found.values()), 100)


def slowly(net, end, context):
    """What becomes of a reading in the end, and all that is told of it; "on" if this takes long."""
    for moves in range(30):
        if end in [(), ROOT]:
            return "stuck", ("stuck", end, context, moves)
        word, end, context = moved(net, end, context)
        if word != "on":
            return word, (word, end, context, moves + 1)
    return "on", None


class WalkedTest(unittest.TestCase):

    def test_like_move_by_move(self):
        dice = random.Random(132)
        words = {"met": 0, "stuck": 0, "on": 0}
        for _ in range(300):
            net = random_net(dice, dice.randrange(2, 14), 3)
            for node, row in enumerate(net[1]):
                at = ((node, dice.randrange(PORTS[row[0]])), random_context(dice))
                word, expected = slowly(net, *at)
                words[word] += 1
                if word != "on":
                    self.assertEqual(walked(net, *at), expected)
        self.assertGreater(min(words["met"], words["stuck"]), 100)

    def ring(self, opens):
        """A net: 1 is a fan whose port 1 leads back to its front, through so many opens; 2 is the last of these."""
        wires = Wires()
        fan = wires.node("fan", 0)
        out = wires.opens((fan, 0), opens)
        wires.join(out, (fan, 1))
        return wires.net(wires.call((fan, 2), ()))

    def test_20000_moves_and_one_more(self):
        # Each of 39 rounds goes through the fan and all opens; then the fan is gone through, and the call met.
        net, context = self.ring(511), (marks(39, TWO),)
        for ahead, moves in [(0, 19970), (1, 19971), (30, 20000)]:
            self.assertEqual(walked(net, (ahead + 1, 1) if ahead else (1, 0), context), ("met", (0, 0), (), moves))
        self.assertEqual(limit_of(walked, net, (32, 1), context), 20000)
        # Here it is stuck at the fan, behind 38 rounds.
        net, context = self.ring(525), (marks(38, ("pair", ONE, ONE)),)
        self.assertEqual(walked(net, (12, 1), context), ("stuck", (1, 0), (("pair", ONE, ONE),), 20000))
        self.assertEqual(limit_of(walked, net, (13, 1), context), 20000)

    def test_endless_ways(self):
        wires = Wires()
        fan = wires.node("fan", 0)
        wires.join((fan, 0), (fan, 1))
        net = wires.net((fan, 2))
        self.assertEqual(limit_of(walked, net, (0, 2), ()), 20000)
        self.assertEqual(moved(net, (0, 2), ()), ("on", (0, 1), (TWO,)))


class WrongArgumentsTest(unittest.TestCase):

    def test_from_left_to_right(self):
        net = net_of(call(I, A))
        for function in [moved, walked]:
            for value in ODD_VALUES + [T, ((0, False), LETTER[1])]:
                if value != ((), ()):
                    self.assertRaises(InvalidNet, function, value, value, value)
            for value in ODD_VALUES + [ROOT, (4, 0), (3, 1), (0, 3), (0, -1), (True, 0), (0, True), [0, 0], (0, 0, 0)]:
                self.assertRaises(InvalidEnd, function, net, value, None)
            for value in ODD_VALUES + [((),), [ONE], ((True, ()),), (marks(41),)]:
                if value != ():
                    self.assertRaises(InvalidContext, function, net, (0, 0), value)


if __name__ == "__main__":
    unittest.main()
