"""The doing of live edges, without any checks but for what is too great."""

from sharefold.liveedges import sort_of
from sharefold.netparts import ordered_net, walk_order
from sharefold.netshapes import check_bounds

# By how much the index of a copy is more than that of its node, if it comes for a port of such a one.
SHIFTS = {"open": -1, "box": 1}


class Doing:
    """The raw net that comes of a net by the doing of a live edge.

    The edge's nodes stay in the row of nodes, where nothing is joined to them; copies come behind
    all others. For each port of the two, but for their fronts, an end is told instead: the front
    of a copy, or else the port of the other one that goes with it.
    """

    def __init__(self, net, edge):
        self.root, self.nodes = net
        self.edge = edge
        self.instead = {}
        self.copies = []
        self.origins = [(node, 0) for node in range(len(self.nodes))]

    def join_ports(self):
        """Let what the ports of the one are joined to be joined to what those of the other one are."""
        one, other = self.edge
        for port in range(1, len(self.nodes[one][2])):
            self.instead[(one, port)] = (other, port)
            self.instead[(other, port)] = (one, port)

    def copy_nodes(self):
        """Let copies of each of the two come for the ports of the other one."""
        least, great = self._in_turn()
        kind, index, ends = self.nodes[great]
        outer = list(range(1, len(self.nodes[least][2])))
        inner = list(range(1, len(ends)))
        # The copies for port 1 would have these numbers, if ports were counted from 0.
        at_great = len(self.nodes) - 1
        at_least = at_great + len(outer)
        for port in outer:
            self.instead[(least, port)] = (at_great + port, 0)
        for port in inner:
            self.instead[(great, port)] = (at_least + port, 0)
        index = index + SHIFTS.get(self.nodes[least][0], 0)
        for port in outer:
            self._copy((kind, index), (least, port), [(at_least + own, port) for own in inner])
            self.origins.append((great, port))
        for port in inner:
            self._copy(self.nodes[least][:2], (great, port), [(at_great + own, port) for own in outer])
            self.origins.append((least, port))

    def _copy(self, told, end, others):
        """Let a copy come for a port, its front joined to what this was joined to."""
        front = self._instead_of(self.nodes[end[0]][2][end[1]])
        self.copies.append((*told, (front, *others)))

    def _in_turn(self):
        """The letter, or the node with the lesser index, and the other one."""
        one, other = self.edge
        # The walk comes to a letter by the other one alone, so that this has the lesser number.
        if self.nodes[other][0] == "letter" or self.nodes[other][1] < self.nodes[one][1]:
            return other, one
        return one, other

    def _instead_of(self, end):
        """The end that comes in the place of one, behind all ports that go."""
        while end in self.instead:
            end = self.instead[end]
            if end[0] >= len(self.nodes):
                return end
            end = self.nodes[end[0]][2][end[1]]
        return end

    def told(self):
        """The net of what comes, and its origins."""
        rows = []
        for node, (kind, index, ends) in enumerate(self.nodes):
            stays = () if node in self.edge else ends
            rows.append((kind, index, tuple([self._instead_of(end) for end in stays])))
        rows.extend(self.copies)
        root = self._instead_of(self.root)
        order = walk_order(root, rows)
        return ordered_net(root, rows, order), tuple([self.origins[node] for node in order])


def doing_of(net, edge):
    """The net behind the doing of a live edge, and the origins of its nodes."""
    nodes = net[1]
    doing = Doing(net, edge)
    sort = sort_of(nodes[edge[0]], nodes[edge[1]])
    if sort == "call" or sort == "alike":
        doing.join_ports()
    else:
        doing.copy_nodes()
    behind, origins = doing.told()
    check_bounds(behind)
    return behind, origins
