"""Nets that many tests need."""

from sharefold.errors import TooMany
from sharefold.doings import done
from sharefold.liveedges import live_edges
from sharefold.netshapes import plain_net
from sharefold.termnets import net_of
from tests.samples import random_terms

ROOT = (-1, 0)
PORTS = {"call": 3, "fun": 3, "fan": 3, "open": 2, "box": 2, "letter": 1}
LETTER = ((0, 0), (("letter", "A", ((-1, 0),)),))
# A call of an open one that comes back to it, with a fun of which nothing else is joined.
JOINED = ((0, 1), (("call", 3, ((1, 1), (-1, 0), (1, 0))), ("open", 39, ((0, 2), (0, 0)))))


def chain(many):
    """A net of so many opens one behind the other."""
    ends = [(-1, 0)] + [(node, 0) for node in range(many)]
    nodes = [("open", 0, ((node + 1, 1) if node + 1 < many else (), ends[node])) for node in range(many)]
    return (0, 1), tuple(nodes)


def random_raw(dice, many):
    """A raw net of so many nodes, whose ends are joined by chance."""
    kinds = [dice.choice(list(PORTS)) for _ in range(many)]
    ends = [(node, port) for node, kind in enumerate(kinds) for port in range(PORTS[kind])] + [(-1, 0)]
    dice.shuffle(ends)
    joined = {}
    for place in range(0, len(ends) - 1, 2):
        if dice.random() < 0.9:
            joined[ends[place]], joined[ends[place + 1]] = ends[place + 1], ends[place]
    nodes = [(kind, "Q" if kind == "letter" else dice.randrange(40),
              tuple([joined.get((node, port), ()) for port in range(PORTS[kind])])) for node, kind in enumerate(kinds)]
    return joined.get((-1, 0), ()), tuple(nodes)


def random_net(dice, many, indices):
    """A net of at most so many nodes, many fronts of which are joined to each other, below a call."""
    kinds = ["call"] + [dice.choice(["call", "fun", "fan", "fan", "open", "box", "letter"]) for _ in range(many - 1)]
    fronts = [(node, 0) for node in range(many)]
    dice.shuffle(fronts)
    cut = dice.randrange(many + 1) // 2 * 2
    ends = fronts[cut:] + [(node, port) for node in range(many) for port in range(1, PORTS[kinds[node]])]
    ends.remove((0, 1))
    dice.shuffle(ends)
    row = fronts[:cut] + ends + [()] * (len(ends) % 2)
    joined = {(0, 1): ROOT}
    for one, other in zip(row[::2], row[1::2]):
        joined[one], joined[other] = other, one
    nodes = [(kind, "Q" if kind == "letter" else dice.randrange(indices),
              tuple([joined.get((node, port), ()) for port in range(PORTS[kind])])) for node, kind in enumerate(kinds)]
    return plain_net(((0, 1), tuple(nodes)))


class Wires:
    """Nodes that are joined, part by part, each part told by its way out."""

    def __init__(self):
        self.rows = []

    def node(self, kind, index, **ends):
        """A node; what its ports p0, p1, p2 are joined to."""
        self.rows.append([kind, index, [()] * PORTS[kind]])
        number = len(self.rows) - 1
        for port, end in ends.items():
            self.join((number, int(port[1])), end)
        return number

    def join(self, one, other):
        self.rows[one[0]][2][one[1]] = other
        if other not in [(), ROOT]:
            self.rows[other[0]][2][other[1]] = one

    def letter(self, sign="A"):
        return self.node("letter", sign), 0

    def call(self, function, argument, index=0):
        return self.node("call", index, p0=function, p2=argument), 1

    def fun(self, body, index=0):
        return self.node("fun", index, p1=body), 0

    def shared(self, out, index=0):
        """The two ways out of a fan before a way out."""
        fan = self.node("fan", index, p0=out)
        return (fan, 1), (fan, 2)

    def opens(self, out, many):
        """A way out ahead of which there are so many opens that change no context."""
        for _ in range(many):
            out = (self.node("open", 39, p0=out), 1)
        return out

    def tree(self, leaves):
        """A low tree of calls, of so many letters."""
        if leaves == 1:
            return self.letter()
        return self.call(self.tree(leaves // 2), self.tree(leaves - leaves // 2))

    def raw(self, root):
        if root != ():
            self.join(root, ROOT)
        return root, tuple([(kind, index, tuple(ends)) for kind, index, ends in self.rows])

    def net(self, root):
        return plain_net(self.raw(root))


def nets_of_runs(dice, seed, many, greatest, most):
    """Nets of random terms, and behind random doings of them, with all nets ahead."""
    for term in random_terms(seed, many, greatest):
        try:
            net = net_of(term)
            yield net
            for _ in range(dice.randrange(most + 1)):
                edges = live_edges(net)
                if not edges:
                    break
                net = done(net, dice.choice(edges))
                yield net
        except TooMany:
            continue
