"""The walk through nets, and the reading of nets, plainly as they are told."""


def slow_walk(raw):
    """The nodes to which the walk comes, in order."""
    root, nodes = raw
    come, order = set(), []

    def at(end):
        if end in [(), (-1, 0)] or end in come:
            return
        come.add(end)
        node, port = end
        if node not in order:
            order.append(node)
        kind, _, ends = nodes[node]
        if kind == "call" and port == 1:
            at(ends[0])
            at(ends[2])
        if kind == "fun" and port == 0:
            at(ends[1])
        if kind == "fan" and port in (1, 2):
            at(ends[0])
        if kind == "fan" and port == 0:
            at(ends[1])
            at(ends[2])
        if kind in ("open", "box"):
            at(ends[1 - port])

    at(root)
    return order


def slow_plain(raw):
    """The net of a raw net."""
    order = slow_walk(raw)

    def new(end):
        if end in [(), (-1, 0)]:
            return end
        return (order.index(end[0]), end[1]) if end[0] in order else ()

    root, nodes = raw
    return new(root), tuple([(*nodes[node][:2], tuple([new(end) for end in nodes[node][2]])) for node in order])


def level(context, index):
    return context[index] if index < len(context) else ()


def trimmed(levels):
    levels = list(levels)
    while levels and levels[-1] == ():
        levels.pop()
    return tuple(levels)


def filled(context, many):
    return list(context) + [()] * (many - len(context))


def passed(kind, index, port, context):
    """The port by which a reading leaves a fan, open or box, and the context then."""
    levels = filled(context, index + 2)
    if kind == "fan" and port == 0:
        mark, levels[index] = levels[index][:2]
        return mark, trimmed(levels)
    if kind == "fan":
        levels[index] = (port, levels[index])
    elif kind == "open" and port == 1:
        levels.insert(index, ())
    elif kind == "open":
        if levels.pop(index) != ():
            raise ValueError("stuck")
    elif port == 1:
        pair = ("pair", *levels[index:index + 2])
        levels[index:index + 2] = [() if pair == ("pair", (), ()) else pair]
    else:
        own = levels[index]
        if own != () and own[0] != "pair":
            raise ValueError("stuck")
        levels[index:index + 1] = own[1:] if own else [(), ()]
    return (0 if port else 1), trimmed(levels)


def read_net(net):
    """The term as which a net is read."""
    root, nodes = net

    def read(end, context, around):
        kind, index, ends = nodes[end[0]]
        while kind in ("fan", "open", "box"):
            port, context = passed(kind, index, end[1], context)
            end = ends[port]
            kind, index, ends = nodes[end[0]]
        if kind == "letter":
            return "letter", index
        if kind == "call" and end[1] == 1:
            return "call", read(ends[0], context, around), read(ends[2], context, around)
        if kind == "fun" and end[1] == 0:
            return "fun", read(ends[1], context, around + [(end[0], context)])
        if kind != "fun" or end[1] != 2:
            raise ValueError("stuck")
        own = [n for n, (node, other) in enumerate(around[::-1])
               if node == end[0] and all(level(other, k) == level(context, k) for k in range(index))]
        if len(own) != 1:
            raise ValueError("stuck")
        return "name", own[0]

    return read(root, (), [])
