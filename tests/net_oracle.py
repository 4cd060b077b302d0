"""The walk through nets, the doing of live edges, and the reading of nets, plainly as they are told."""

from sharefold.errors import NotRead, TooMany


def slow_walk(raw):
    """The nodes to which the walk comes, in order."""
    root, nodes = raw
    come, order = set(), []

    def at(end):
        if end in [(), (-1, 0)] or end in come:
            return
        come.add(end)
        node, port = end
        if node not in order:
            order.append(node)
        kind, _, ends = nodes[node]
        if kind == "call" and port == 1:
            at(ends[0])
            at(ends[2])
        if kind == "fun" and port == 0:
            at(ends[1])
        if kind == "fan" and port in (1, 2):
            at(ends[0])
        if kind == "fan" and port == 0:
            at(ends[1])
            at(ends[2])
        if kind in ("open", "box"):
            at(ends[1 - port])

    at(root)
    return order


def slow_plain(raw):
    """The net of a raw net."""
    order = slow_walk(raw)

    def new(end):
        if end in [(), (-1, 0)]:
            return end
        return (order.index(end[0]), end[1]) if end[0] in order else ()

    root, nodes = raw
    return new(root), tuple([(*nodes[node][:2], tuple([new(end) for end in nodes[node][2]])) for node in order])


def level(context, index):
    return context[index] if index < len(context) else ()


def trimmed(levels):
    levels = list(levels)
    while levels and levels[-1] == ():
        levels.pop()
    return tuple(levels)


def filled(context, many):
    return list(context) + [()] * (many - len(context))


def passed(kind, index, port, context):
    """The port by which a reading leaves a fan, open or box, and the context then."""
    levels = filled(context, index + 2)
    if kind == "fan" and port == 0:
        if levels[index] == () or levels[index][0] == "pair":
            raise ValueError("stuck")
        mark, levels[index] = levels[index]
        return mark, trimmed(levels)
    if kind == "fan":
        levels[index] = (port, levels[index])
    elif kind == "open" and port == 1:
        levels.insert(index, ())
    elif kind == "open":
        if levels.pop(index) != ():
            raise ValueError("stuck")
    elif port == 1:
        pair = ("pair", *levels[index:index + 2])
        levels[index:index + 2] = [() if pair == ("pair", (), ()) else pair]
    else:
        own = levels[index]
        if own != () and own[0] != "pair":
            raise ValueError("stuck")
        levels[index:index + 1] = own[1:] if own else [(), ()]
    return (0 if port else 1), trimmed(levels)


def is_like(one, other, index):
    return all(level(one, k) == level(other, k) for k in range(index))


def slow_sort(one, other):
    """The sort of the edge of two nodes, None if it is not live."""
    sharing = [row for row in (one, other) if row[0] in ("fan", "open", "box")]
    letters = [row for row in (one, other) if row[0] == "letter"]
    if {one[0], other[0]} == {"call", "fun"} and one[1] == other[1]:
        return "call"
    if len(sharing) == 2 and one[0] == other[0] and one[1] == other[1]:
        return "alike"
    if not letters and one[1] != other[1] and sharing:
        return "unlike"
    if letters and sharing:
        return "letter"
    return None


def slow_edges(net):
    """The live edges of a net, with their sorts."""
    nodes = net[1]
    pairs = [(a, b) for a in range(len(nodes)) for b in range(a + 1, len(nodes)) if nodes[a][2][0] == (b, 0)]
    return {(a, b): slow_sort(nodes[a], nodes[b]) for a, b in pairs if slow_sort(nodes[a], nodes[b])}


def slow_doing(net, edge):
    """The net behind the doing of a live edge, of whatever size, and the origins."""
    root, nodes = net
    a, b = edge
    joined = {(node, port): end for node, row in enumerate(nodes) for port, end in enumerate(row[2]) if end != ()}
    if root != ():
        joined[(-1, 0)] = root
    kinds = {node: (*row[:2], (node, 0)) for node, row in enumerate(nodes) if node not in edge}
    del joined[(a, 0)], joined[(b, 0)]
    if slow_sort(nodes[a], nodes[b]) in ("call", "alike"):
        joined = without_wires(joined, a, b, len(nodes[a][2]))
    else:
        joined = with_copies(joined, nodes, *sorted(edge, key=lambda n: (nodes[n][0] != "letter", nodes[n][1])), kinds)
    names = list(kinds)
    rows = [(kinds[name][0], kinds[name][1], []) for name in names]
    for name, row in zip(names, rows):
        ports = {"call": 3, "fun": 3, "fan": 3, "open": 2, "box": 2, "letter": 1}[row[0]]
        row[2].extend([numbered(joined.get((name, port), ()), names) for port in range(ports)])
    raw = numbered(joined.get((-1, 0), ()), names), rows
    return slow_plain(raw), tuple([kinds[names[node]][2] for node in slow_walk(raw)])


def numbered(end, names):
    return end if end in [(), (-1, 0)] else (names.index(end[0]), end[1])


def without_wires(joined, a, b, ports):
    """What is joined if each port of a goes on through that of b, wire by wire."""
    joined = dict(joined)
    for port in range(1, ports):
        one, other = joined.pop((a, port), None), joined.pop((b, port), None)
        if one == (b, port):
            continue
        for end, partner in [(one, other), (other, one)]:
            if end is not None and partner is not None:
                joined[end] = partner
            elif end is not None:
                del joined[end]
    return joined


def with_copies(joined, nodes, f, g, kinds):
    """What is joined where copies come; kinds takes the copies, with their origins."""
    new = {}
    shift = {"open": -1, "box": 1}.get(nodes[f][0], 0)
    for port in range(1, len(nodes[f][2])):
        kinds["g", port] = (nodes[g][0], nodes[g][1] + shift, (g, port))
        new[f, port] = (("g", port), 0)
    for port in range(1, len(nodes[g][2])):
        kinds["f", port] = (*nodes[f][:2], (f, port))
        new[g, port] = (("f", port), 0)
    came = {new.get(end, end): new.get(other, other) for end, other in joined.items()}
    for p in range(1, len(nodes[f][2])):
        for q in range(1, len(nodes[g][2])):
            came[("g", p), q], came[("f", q), p] = (("f", q), p), (("g", p), q)
    return came


class SlowReading:
    """A reading, move by move: the term, the places, and the hops of the way to each place.

    A hop is a pair of the end that is left and of the end that is come to.
    """

    def __init__(self, net):
        self.root, self.nodes = net
        self.moves = 0
        self.places = []
        self.hops = []
        self.term = self.read((-1, 0), self.root, (), [], 1)

    def way(self, left, end, context):
        hops = []
        while True:
            hops.append((left, end))
            if end in [(), (-1, 0)]:
                raise NotRead(end)
            self.moves += 1
            if self.moves > 20000:
                raise TooMany(20000)
            kind, index, ends = self.nodes[end[0]]
            if kind not in ("fan", "open", "box"):
                return hops, end, context
            try:
                port, context = passed(kind, index, end[1], context)
            except ValueError:
                raise NotRead(end) from None
            left, end = (end[0], port), ends[port]

    def read(self, left, end, context, around, height):
        hops, end, context = self.way(left, end, context)
        node, port = end
        kind, index, ends = self.nodes[node]
        if (kind == "call" and port != 1) or (kind == "fun" and port == 1):
            raise NotRead(end)
        self.places.append((node, context))
        self.hops.append(hops)
        if len(self.places) > 600:
            raise TooMany(600)
        if height > 60:
            raise TooMany(60)
        if kind == "letter":
            return "letter", index
        if kind == "call":
            parts = [self.read((node, out), ends[out], context, around, height + 1) for out in (0, 2)]
            return ("call", *parts)
        if port == 0:
            return "fun", self.read((node, 1), ends[1], context, around + [(node, context)], height + 1)
        own = [n for n, (fun, other) in enumerate(around[::-1]) if fun == node and is_like(other, context, index)]
        if len(own) != 1:
            raise NotRead(end)
        return "name", own[0]


def read_net(net):
    """The term as which a net is read."""
    return SlowReading(net).term
