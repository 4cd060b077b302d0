"""Raw nets and nets: [16], [17] and [58], and what [3] promises of raw nets."""

import random
import unittest

from sharefold.errors import InvalidNet
from sharefold.netshapes import is_net, is_raw_net, plain_net, plain_order
from sharefold.termnets import net_of
from tests.net_oracle import slow_plain, slow_walk
from tests.net_samples import JOINED, LETTER, PORTS, chain, random_raw
from tests.samples import ODD_VALUES, T, random_terms

def renumbered(raw, numbers):
    """A raw net each node of which has another number; numbers that are left over have no nodes yet."""
    def new(end):
        return end if end in [(), (-1, 0)] else (numbers[end[0]], end[1])

    root, nodes = raw
    placed = {numbers[node]: (kind, index, tuple([new(end) for end in ends]))
              for node, (kind, index, ends) in enumerate(nodes)}
    return new(root), placed


def with_more(dice, net, many):
    """A raw net of a net's nodes in another order, and of so many more, to which the walk doesn't come."""
    total = len(net[1]) + many
    numbers = dice.sample(range(total), len(net[1]))
    root, placed = renumbered(net, numbers)
    free = [number for number in range(total) if number not in placed]
    # Names' ways that are joined to nothing are joined to what is not reached.
    open_ends = [(number, 2) for number, row in placed.items() if row[0] == "fun" and row[2][2] == ()]
    for number in free:
        placed[number] = ("box", 7, ((), ()))
        if open_ends:
            node, port = open_ends.pop()
            kind, index, ends = placed[node]
            placed[node] = (kind, index, ends[:2] + ((number, 1),))
            placed[number] = ("box", 7, ((), (node, port)))
    return root, tuple([placed[number] for number in range(total)])


class RawNetTest(unittest.TestCase):

    def test_raw_nets(self):
        for raw in [LETTER, JOINED, ((), ()), ((), (("letter", "A", ((),)),)), chain(3),
                    ((), (("fan", 0, ((), (0, 2), (0, 1))),)), ((), (("call", 0, ((), (), ())),)),
                    ((1, 0), (("letter", "B", ((),)), ("letter", "A", ((-1, 0),))))]:
            self.assertIs(is_raw_net(raw), True, raw)

    def test_kinds_and_ports(self):
        for kind, ports in PORTS.items():
            index = "A" if kind == "letter" else 0
            for many in range(5):
                self.assertIs(is_raw_net(((), ((kind, index, ((),) * many),))), many == ports)

    def test_indices_of_39_and_one_more(self):
        for kind in ["call", "fun", "fan", "open", "box"]:
            for index in [0, 39, 40, -1, True, False, "A", None, (0,)]:
                raw = ((), ((kind, index, ((),) * PORTS[kind]),))
                self.assertIs(is_raw_net(raw), index in [0, 39] and not isinstance(index, bool), raw)
        for index in ["A", "Z", "a", "AB", "", 0, None, ("A",)]:
            self.assertIs(is_raw_net(((), (("letter", index, ((),)),))), index in ["A", "Z"])

    def test_600_nodes_and_one_more(self):
        letter = ("letter", "A", ((),))
        self.assertIs(is_raw_net(((), (letter,) * 600)), True)
        self.assertIs(is_raw_net(((), (letter,) * 601)), False)
        self.assertIs(is_net(chain(600)), True)
        self.assertIs(is_net(chain(601)), False)

    def test_no_raw_nets(self):
        for value in ODD_VALUES:
            self.assertIs(is_raw_net(value), False, value)
            self.assertIs(is_raw_net((value, ())), value == ())
            self.assertIs(is_raw_net(((), value)), value == ())
            self.assertIs(is_raw_net(((), (value,))), False)
            self.assertIs(is_raw_net(((), (("letter", "A", (value,)),))), value == ())
            self.assertIs(is_raw_net((value, (("letter", "A", ((-1, 0),)),))), False)
            self.assertIs(is_raw_net(((), ((value, 0, ((), ())),))), False)
        for value in [list(LETTER), (LETTER[0], list(LETTER[1])), ((0, 0), (["letter", "A", ((-1, 0),)],)),
                      ((0, 0), (("letter", "A", [(-1, 0)]),)), ((0, 0), (("letter", "A", ([-1, 0],)),)),
                      ([0, 0], LETTER[1]), LETTER + ((),), (LETTER[0],), ((0, 0), (("letter", "A", ((-1, 0),), 0),)),
                      ((False, 0), LETTER[1]), ((0, False), LETTER[1]), ((0, 0), (("letter", "A", ((-1, False),)),)),
                      ((-1, 0), ()), ((-1, 0), LETTER[1])]:
            self.assertIs(is_raw_net(value), False, value)

    def test_ends_that_are_none(self):
        for end in [(1, 0), (0, 1), (-1, 1), (-2, 0), (0, -1), (0,), (0, 0, 0), ("0", 0), (None, None), (0, 10 ** 100)]:
            self.assertIs(is_raw_net((end, LETTER[1])), False, end)
            self.assertIs(is_raw_net(((), (("letter", "A", (end,)),))), False, end)

    def test_joined_both_ways_and_to_no_other(self):
        two = (("letter", "A", ((1, 0),)), ("letter", "B", ((0, 0),)))
        self.assertIs(is_raw_net(((), two)), True)
        for value in [((0, 0), two), ((0, 0), (("letter", "A", ((),)),)), ((), LETTER[1]),
                      ((), (("letter", "A", ((0, 0),)),)), ((), (("letter", "A", ((1, 0),)), ("letter", "B", ((),)))),
                      ((0, 0), (("letter", "A", ((-1, 0),)), ("letter", "B", ((-1, 0),)))),
                      ((), two + (("letter", "C", ((0, 0),)),)), ((), (("open", 0, ((0, 0), (0, 1))),)),
                      ((), (("open", 0, ((0, 1), ())),)), ((0, 1), (("open", 0, ((-1, 0), ())),))]:
            self.assertIs(is_raw_net(value), False, value)
        self.assertIs(is_raw_net(((), (("open", 0, ((0, 1), (0, 0))),))), True)

    def test_a_truth_in_the_place_of_an_integer_within(self):
        nodes = (("letter", "A", ((True, 0),)), ("letter", "B", ((0, 0),)))
        self.assertIs(is_raw_net(((), nodes)), False)


class NetTest(unittest.TestCase):

    def test_nets(self):
        for net in [LETTER, ((), ()), chain(5), JOINED]:
            self.assertIs(is_net(net), True, net)

    def test_no_nets(self):
        for value in ODD_VALUES + [((), (("letter", "A", ((),)),)),
                                   ((1, 0), (("letter", "B", ((),)), ("letter", "A", ((-1, 0),)))),
                                   ((0, 0), LETTER[1] + (("letter", "B", ((),)),)),
                                   ((1, 1), (("letter", "A", ((1, 0),)), ("open", 0, ((0, 0), (-1, 0)))))]:
            self.assertIs(is_net(value), False, value)
        # The call's function must come ahead of its argument.
        parts = (("letter", "A", ((0, 0),)), ("letter", "B", ((0, 2),)))
        self.assertIs(is_net(((0, 1), (("call", 0, ((1, 0), (-1, 0), (2, 0))),) + parts)), True)
        parts = (("letter", "B", ((0, 2),)), ("letter", "A", ((0, 0),)))
        self.assertIs(is_net(((0, 1), (("call", 0, ((2, 0), (-1, 0), (1, 0))),) + parts)), False)

    def test_from_where_the_walk_goes_on(self):
        onwards = {("call", 1): (0, 2), ("fun", 0): (1,), ("fan", 0): (1, 2), ("fan", 1): (0,), ("fan", 2): (0,),
                   ("open", 0): (1,), ("open", 1): (0,), ("box", 0): (1,), ("box", 1): (0,)}
        for kind, ports in PORTS.items():
            for port in range(ports):
                ends = [(other + 1, 0) for other in range(ports)]
                ends[port] = (-1, 0)
                index = "A" if kind == "letter" else 0
                letters = [("letter", "ABC"[other], ((0, other) if other != port else (),)) for other in range(ports)]
                raw = ((0, port), ((kind, index, tuple(ends)), *letters))
                self.assertIs(is_raw_net(raw), True)
                expected = (0, *[other + 1 for other in onwards.get((kind, port), ())])
                self.assertEqual(plain_order(raw), expected)

    def test_an_end_is_come_to_once(self):
        # A fan that comes back to itself.
        raw = ((0, 0), (("fan", 1, ((-1, 0), (0, 2), (0, 1))),))
        self.assertEqual(plain_order(raw), (0,))
        self.assertEqual(plain_net(raw), raw)
        # One that comes to both of its other ports.
        raw = ((0, 1), (("call", 0, ((1, 1), (-1, 0), (1, 2))), ("fan", 0, ((2, 0), (0, 0), (0, 2))),
                        ("letter", "A", ((1, 0),))))
        self.assertIs(is_net(raw), True)


class PlainNetTest(unittest.TestCase):

    def test_what_is_not_reached_goes(self):
        raw = ((1, 0), (("box", 5, ((), (1, 2))), ("fun", 2, ((-1, 0), (2, 0), (0, 1))), ("letter", "C", ((1, 1),))))
        self.assertEqual(plain_order(raw), (1, 2))
        self.assertEqual(plain_net(raw), ((0, 0), (("fun", 2, ((-1, 0), (1, 0), ())), ("letter", "C", ((0, 1),)))))
        self.assertEqual(plain_net(((), (("letter", "A", ((),)),))), ((), ()))
        self.assertEqual(plain_order(((), (("letter", "A", ((),)),))), ())

    def test_like_the_walk_as_it_is_told(self):
        dice = random.Random(81)
        reached = 0
        for _ in range(500):
            raw = random_raw(dice, dice.randrange(1, 25))
            self.assertIs(is_raw_net(raw), True)
            self.assertEqual(plain_order(raw), tuple(slow_walk(raw)))
            self.assertEqual(plain_net(raw), slow_plain(raw))
            self.assertIs(is_net(plain_net(raw)), True)
            self.assertEqual(plain_net(plain_net(raw)), plain_net(raw))
            self.assertIs(is_net(raw), slow_walk(raw) == list(range(len(raw[1]))))
            reached += len(slow_walk(raw)) > 4
        self.assertGreater(reached, 50)

    def test_renumberings_with_more_have_the_same_net(self):
        dice = random.Random(82)
        for term in random_terms(82, 60, 25):
            net = net_of(term)
            raw = with_more(dice, net, dice.randrange(6))
            self.assertIs(is_raw_net(raw), True)
            self.assertEqual(plain_net(raw), net)

    def test_long_walks(self):
        root, nodes = chain(600)
        numbers = [599 - node for node in range(600)]
        root, placed = renumbered((root, nodes), numbers)
        raw = (root, tuple([placed[number] for number in range(600)]))
        self.assertEqual(plain_order(raw), tuple(numbers))
        self.assertEqual(plain_net(raw), chain(600))


class WrongArgumentsTest(unittest.TestCase):

    def test_no_raw_net(self):
        for value in ODD_VALUES + [T, ((0, 0), ()), chain(601), list(LETTER)]:
            if value != ((), ()):
                self.assertRaises(InvalidNet, plain_net, value)
                self.assertRaises(InvalidNet, plain_order, value)


if __name__ == "__main__":
    unittest.main()
