"""The nodes of nets, their ports, and the walk through them, without any checks."""

# How many ports the nodes of each kind have.
PORTS = {"call": 3, "fun": 3, "fan": 3, "open": 2, "box": 2, "letter": 1}

# The kinds of the nodes that readings go through.
SHARERS = ("fan", "open", "box")

# From which ports the walk goes on where it comes to a port of a node of a kind, in this order.
ONWARDS = {
    ("call", 1): (0, 2), ("fun", 0): (1,), ("fan", 0): (1, 2), ("fan", 1): (0,), ("fan", 2): (0,),
    ("open", 0): (1,), ("open", 1): (0,), ("box", 0): (1,), ("box", 1): (0,)}

ROOT = (-1, 0)


def walk_order(root, nodes):
    """The list of the nodes to which the walk comes, in the order in which it first does."""
    order = {}
    come = {}
    waiting = [root]
    while waiting:
        end = waiting.pop()
        if end == () or end == ROOT or end in come:
            continue
        come[end] = True
        node, port = end
        order[node] = True
        kind, _, ends = nodes[node]
        onwards = ONWARDS.get((kind, port), ())
        waiting.extend([ends[out] for out in onwards[::-1]])
    return list(order)


def net_in(root, nodes):
    """The net of the raw net of a root and its nodes, however many these are."""
    return ordered_net(root, nodes, walk_order(root, nodes))


def ordered_net(root, nodes, order):
    """The net of a raw net, to the nodes of which the walk comes in this order."""
    numbers = {node: number for number, node in enumerate(order)}
    plain = []
    for node in order:
        kind, index, ends = nodes[node]
        plain.append((kind, index, tuple([end_in(end, numbers) for end in ends])))
    return end_in(root, numbers), tuple(plain)


def end_in(end, numbers):
    """An end with the new number of its node; nothing where its node has none."""
    if end == () or end == ROOT:
        return end
    if end[0] not in numbers:
        return ()
    return numbers[end[0]], end[1]
