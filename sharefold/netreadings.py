"""The readings of nets, without any checks but for what is too great, or stuck."""

from sharefold.errors import NotRead, TooMany
from sharefold.levels import is_same_below
from sharefold.liveedges import sort_of
from sharefold.netmoves import way_on
from sharefold.netparts import SHARERS
from sharefold.termshapes import MOST_HEIGHT, MOST_NODES, parts_of, redexes_in


class Reading:
    """A reading of a net: the term, the places of its nodes, and the way to each of them.

    A way is the list of the ends to which the reading comes. To a call's function it begins with
    the call's own end, by the front of which it is left.
    """

    def __init__(self, net):
        self.root, self.nodes = net
        self.term = None
        self.places = []
        self.ways = []
        self.moves = 0

    def read_all(self):
        self.term = self._part([], self.root, (), ())

    def _part(self, ahead, end, context, around):
        """The term that is read from an end on; around are the ends and contexts of all that it is in."""
        word, ends, context = way_on(self.nodes, end, context, self.moves)
        end = ends[-1]
        if word == "stuck":
            raise NotRead(end)
        self.moves += len(ends)
        self.ways.append(ahead + ends)
        kind, index, joints = self.nodes[end[0]]
        if (kind == "call" and end[1] != 1) or (kind == "fun" and end[1] == 1):
            raise NotRead(end)
        around = self._placed(end, context, around)
        if kind == "letter":
            return "letter", index
        if kind == "call":
            function = self._part([end], joints[0], context, around)
            return "call", function, self._part([], joints[2], context, around)
        if end[1] == 0:
            return "fun", self._part([], joints[1], context, around)
        return "name", self._name(end, around)

    def _placed(self, end, context, around):
        """Give a node of the term its place; return what its parts are in, itself the last."""
        self.places.append((end[0], context))
        if len(self.places) > MOST_NODES:
            raise TooMany(MOST_NODES)
        if len(around) >= MOST_HEIGHT:
            raise TooMany(MOST_HEIGHT)
        return (*around, (end, context))

    def _name(self, end, around):
        """How many functions are between a name and its own one."""
        node = end[0]
        index = self.nodes[node][1]
        context = around[-1][1]
        funs = [(place, outer) for place, outer in around[:-1] if self.nodes[place[0]][0] == "fun"]
        own = []
        for many, (place, outer) in enumerate(funs[::-1]):
            if place[0] == node and is_same_below(outer, context, index):
                own.append(many)
        if len(own) != 1:
            raise NotRead(end)
        return own[0]

    def least_redex(self):
        """The least redex of the term that is read, or None."""
        redexes = redexes_in(parts_of(self.term))
        return redexes[0] if redexes else None

    def wanted_edge(self):
        """The first live edge that is passed from the least redex to the function of its call, or None."""
        redex = self.least_redex()
        edges = [] if redex is None else self.edges_on(self.ways[redex + 1])
        return edges[0] if edges else None

    def wanted_passes(self):
        """The list of the passes from the least redex, which there must be, to the function of its call."""
        return self.passes_on(self.ways[self.least_redex() + 1])

    def edges_on(self, way):
        """The list of the live edges that are passed on a way, as often as they are."""
        edges = []
        for end, other in zip(way, way[1:]):
            if end[1] != 0 and other[1] == 0 and sort_of(self.nodes[end[0]], self.nodes[other[0]]) is not None:
                edges.append((min(end[0], other[0]), max(end[0], other[0])))
        return edges

    def passes_on(self, way):
        """The list of the passes on a way: the fans, opens and boxes that are gone through."""
        passed = [(node, port) for node, port in way if self.nodes[node][0] in SHARERS]
        return [(node, "in" if port == 0 else "out") for node, port in passed]

    def lot_of(self, edge):
        """The ascending tuple of the redexes whose places have the call of a live edge of a call and a fun."""
        call = edge[0] if self.nodes[edge[0]][0] == "call" else edge[1]
        return tuple([node for node, place in enumerate(self.places) if place[0] == call])


def reading_of(net):
    """The reading of a net, gone through to the end."""
    reading = Reading(net)
    reading.read_all()
    return reading
