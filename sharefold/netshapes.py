"""Raw nets, and nets."""

from sharefold.errors import InvalidEnd, InvalidNet, TooMany
from sharefold.integers import is_between, is_integer
from sharefold.netparts import PORTS, ROOT, net_in, walk_order
from sharefold.terms import is_capital

MOST_NET_NODES = 600
GREATEST_INDEX = 39


def is_raw_net(value):
    """Whether any value is a raw net."""
    if not isinstance(value, tuple) or len(value) != 2:
        return False
    root, nodes = value
    if not isinstance(nodes, tuple) or len(nodes) > MOST_NET_NODES:
        return False
    if not all([is_net_node(node) for node in nodes]):
        return False
    if root != () and not (is_end(root, nodes) and nodes[root[0]][2][root[1]] == ROOT):
        return False
    ends = [(node, port) for node, row in enumerate(nodes) for port in range(len(row[2]))]
    return all([is_joined(root, nodes, end) for end in ends])


def is_net_node(value):
    """Whether any value is a node of a net, but for what its ports are joined to."""
    if not isinstance(value, tuple) or len(value) != 3:
        return False
    kind, index, ends = value
    if not isinstance(kind, str) or kind not in PORTS:
        return False
    if not isinstance(ends, tuple) or len(ends) != PORTS[kind]:
        return False
    return is_capital(index) if kind == "letter" else is_between(index, 0, GREATEST_INDEX)


def is_end(value, nodes):
    """Whether any value is an end of one of these nodes."""
    if not isinstance(value, tuple) or len(value) != 2 or not is_between(value[0], 0, len(nodes) - 1):
        return False
    return is_between(value[1], 0, len(nodes[value[0]][2]) - 1)


def is_joined(root, nodes, end):
    """Whether what is told for an end can be told, and is joined to this end too."""
    other = nodes[end[0]][2][end[1]]
    if not isinstance(other, tuple) or len(other) != 2:
        return other == ()
    if other == ROOT and is_integer(other[1]):
        return root == end
    return is_end(other, nodes) and other != end and nodes[other[0]][2][other[1]] == end


def is_net(value):
    """Whether any value is a net."""
    if not is_raw_net(value):
        return False
    root, nodes = value
    return walk_order(root, nodes) == list(range(len(nodes)))


def check_raw_net(value):
    if not is_raw_net(value):
        raise InvalidNet("not a raw net")


def check_net(value):
    if not is_net(value):
        raise InvalidNet("not a net")


def check_end(value, nodes):
    if not is_end(value, nodes):
        raise InvalidEnd("not an end of a node of the net")


def check_bounds(net):
    """Refuse what would be a net, but for how many nodes it has, and how great their indices are."""
    if len(net[1]) > MOST_NET_NODES:
        raise TooMany(MOST_NET_NODES)
    if any([kind != "letter" and index > GREATEST_INDEX for kind, index, _ in net[1]]):
        raise TooMany(GREATEST_INDEX)


def plain_net(raw):
    """The net of a raw net."""
    check_raw_net(raw)
    root, nodes = raw
    return net_in(root, nodes)


def plain_order(raw):
    """The tuple of the numbers in a raw net of the nodes of its net."""
    check_raw_net(raw)
    root, nodes = raw
    return tuple(walk_order(root, nodes))
