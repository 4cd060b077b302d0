"""The nets of terms."""

from sharefold.netparts import PORTS, ROOT, net_in
from sharefold.netshapes import check_bounds
from sharefold.terms import check_term


class NetBuilder:
    """The nodes of the net of a term, as they are built.

    Each part of a net is told by its way out, and by its ends of names: a dict with the end of
    the names of each function outside that has names in it, by the number of the function's node.
    """

    def __init__(self):
        self.kinds = []
        self.joints = []

    def make(self, kind, index):
        self.kinds.append((kind, index))
        self.joints.append([()] * PORTS[kind])
        return len(self.kinds) - 1

    def tie(self, one, other):
        self.joints[one[0]][one[1]] = other
        self.joints[other[0]][other[1]] = one

    def build(self, term, level, around):
        """The way out and the ends of names of the net of a term at a level, within functions."""
        if term[0] == "name":
            name = self.make("open", level)
            return (name, 1), {around[len(around) - 1 - term[1]]: (name, 0)}
        if term[0] == "letter":
            return (self.make("letter", term[1]), 0), {}
        if term[0] == "fun":
            return self._build_fun(term[1], level, around)
        return self._build_call(term, level, around)

    def _build_fun(self, body, level, around):
        fun = self.make("fun", level)
        out, ends = self.build(body, level, (*around, fun))
        self.tie((fun, 1), out)
        if fun in ends:
            self.tie((fun, 2), ends[fun])
        return (fun, 0), {owner: end for owner, end in ends.items() if owner != fun}

    def _build_call(self, term, level, around):
        call = self.make("call", level)
        out, ends = self.build(term[1], level, around)
        self.tie((call, 0), out)
        out, others = self.build(term[2], level + 1, around)
        self.tie((call, 2), out)
        for owner, end in others.items():
            box = self.make("box", level)
            self.tie((box, 1), end)
            ends[owner] = self._shared(ends.get(owner), (box, 0), level)
        return (call, 1), ends

    def _shared(self, end, front, level):
        """The end of names of what has this end, if any, and of an argument with a box's front."""
        if end is None:
            return front
        fan = self.make("fan", level)
        self.tie((fan, 1), end)
        self.tie((fan, 2), front)
        return fan, 0

    def built(self, out):
        """The net of what was built, its way out at the root."""
        self.joints[out[0]][out[1]] = ROOT
        nodes = [(*kind, tuple(ends)) for kind, ends in zip(self.kinds, self.joints)]
        return net_in(out, nodes)


def net_of(term):
    """The net of a term."""
    check_term(term)
    return built_net(term)


def built_net(term):
    """The net of what is a term."""
    builder = NetBuilder()
    out, _ = builder.build(term, 0, ())
    net = builder.built(out)
    check_bounds(net)
    return net
