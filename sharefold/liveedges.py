"""The live edges of nets."""

from sharefold.errors import InvalidEdge
from sharefold.integers import is_integer
from sharefold.netparts import SHARERS
from sharefold.netshapes import check_net


def sort_of(one, other):
    """The sort of the edge of two nodes whose fronts are joined, None if it is not live."""
    kinds = (one[0], other[0])
    if kinds[0] not in SHARERS and kinds[1] not in SHARERS:
        if "call" in kinds and "fun" in kinds and one[1] == other[1]:
            return "call"
        return None
    if "letter" in kinds:
        return "letter"
    if one[1] != other[1]:
        return "unlike"
    return "alike" if kinds[0] == kinds[1] else None


def edges_in(nodes):
    """The ascending tuple of the live edges between nodes."""
    edges = []
    for node, row in enumerate(nodes):
        front = row[2][0]
        if front != () and front[1] == 0 and front[0] > node and sort_of(row, nodes[front[0]]) is not None:
            edges.append((node, front[0]))
    return tuple(edges)


def is_live(value, nodes):
    """Whether any value is a live edge between nodes."""
    if not isinstance(value, tuple) or len(value) != 2:
        return False
    return is_integer(value[0]) and is_integer(value[1]) and value in edges_in(nodes)


def check_edge(net, edge):
    """Refuse what is no net, then what is no live edge of it; return the sort of the edge."""
    check_net(net)
    nodes = net[1]
    if not is_live(edge, nodes):
        raise InvalidEdge("not a live edge of the net")
    return sort_of(nodes[edge[0]], nodes[edge[1]])


def live_edges(net):
    """The ascending tuple of the live edges of a net."""
    check_net(net)
    return edges_in(net[1])


def edge_sort(net, edge):
    """The sort of a live edge."""
    return check_edge(net, edge)
