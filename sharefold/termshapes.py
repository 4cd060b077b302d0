"""Terms taken apart, without any checks.

A term is mostly handled as the list of its parts: the terms at its nodes, in their order.
"""

MOST_NODES = 600
MOST_HEIGHT = 60
GREATEST_NODE = 599


def below(part):
    """The parts directly in a term."""
    if part[0] == "fun" or part[0] == "call":
        return part[1:]
    return ()


def parts_of(term):
    parts = []
    waiting = [term]
    while waiting:
        part = waiting.pop()
        parts.append(part)
        waiting.extend(below(part)[::-1])
    return parts


def sizes_of(parts):
    """How many nodes each part has, itself counted."""
    sizes = []
    # Going backwards, the sizes of a part's own parts are the last ones not yet taken.
    waiting = []
    for part in parts[::-1]:
        size = 1
        for _ in below(part):
            size += waiting.pop()
        waiting.append(size)
        sizes.append(size)
    return sizes[::-1]


def aboves_of(parts, sizes):
    """For each node the one in which it is directly, None for the first one."""
    aboves = [None] * len(parts)
    for node, part in enumerate(parts):
        at = node + 1
        for _ in below(part):
            aboves[at] = node
            at += sizes[at]
    return aboves


def owners_of(term):
    """For each name's node that of its function in the term, None where there is none."""
    owners = []
    waiting = [(term, ())]
    while waiting:
        part, around = waiting.pop()
        node = len(owners)
        owners.append(owner_of(part, around))
        if part[0] == "fun":
            around = (*around, node)
        waiting.extend([(own, around) for own in below(part)[::-1]])
    return owners


def owner_of(part, around):
    if part[0] == "name" and part[1] < len(around):
        return around[len(around) - 1 - part[1]]
    return None


def own_names(function):
    """The ascending list of the nodes of a function's own names, counted from its own node on."""
    names = []
    node = 0
    waiting = [(function[1], 0)]
    while waiting:
        part, inner = waiting.pop()
        node += 1
        if part[0] == "fun":
            waiting.append((part[1], inner + 1))
        elif part[0] == "call":
            waiting.extend([(part[2], inner), (part[1], inner)])
        elif part == ("name", inner):
            names.append(node)
    return names


def measured_height(term):
    height = 0
    row = [term]
    while row:
        height += 1
        row = [own for part in row for own in below(part)]
    return height


def is_redex_part(part):
    return part[0] == "call" and part[1][0] == "fun"


def redexes_in(parts):
    return [node for node, part in enumerate(parts) if is_redex_part(part)]
