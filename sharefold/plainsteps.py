"""Plain steps at nodes that are redexes, without any checks but for what is too great."""

from sharefold.errors import TooMany
from sharefold.integers import is_integer
from sharefold.termshapes import MOST_HEIGHT, MOST_NODES, aboves_of, is_redex_part
from sharefold.termshapes import measured_height, own_names, parts_of, sizes_of


def is_redex(term, value):
    """Whether any value is a redex of a term."""
    parts = parts_of(term)
    return is_integer(value) and 0 <= value < len(parts) and is_redex_part(parts[value])


def stepped(term, node):
    """The term behind the plain step at a redex."""
    parts = parts_of(term)
    sizes = sizes_of(parts)
    function, argument = parts[node][1:]
    copies = len(own_names(function))
    # The call and the fun go, and each name makes room for a copy of the argument.
    gone = 2 + sizes[node + 2 + sizes[node + 2]]
    size = len(parts) - gone + copies * (gone - 3)
    if size > MOST_NODES:
        raise TooMany(MOST_NODES)
    behind = replaced(parts, sizes, node, with_argument(function[1], argument, 0))
    if measured_height(behind) > MOST_HEIGHT:
        raise TooMany(MOST_HEIGHT)
    return behind


def with_argument(body, argument, inner):
    """A body with the argument put for its function's names, which have so many functions ahead."""
    if body[0] == "name":
        if body[1] == inner:
            return lifted(argument, inner, 0)
        return ("name", body[1] - 1) if body[1] > inner else body
    if body[0] == "fun":
        return ("fun", with_argument(body[1], argument, inner + 1))
    if body[0] == "call":
        function = with_argument(body[1], argument, inner)
        return ("call", function, with_argument(body[2], argument, inner))
    return body


def lifted(term, by, inner):
    """A term moved into so many functions more, behind so many of its own."""
    if by == 0:
        return term
    if term[0] == "name":
        return ("name", term[1] + by) if term[1] >= inner else term
    if term[0] == "fun":
        return ("fun", lifted(term[1], by, inner + 1))
    if term[0] == "call":
        return ("call", lifted(term[1], by, inner), lifted(term[2], by, inner))
    return term


def replaced(parts, sizes, node, part):
    """The term of these parts, with another part at a node."""
    aboves = aboves_of(parts, sizes)
    at = node
    while aboves[at] is not None:
        outer = aboves[at]
        if parts[outer][0] == "fun":
            part = ("fun", part)
        elif at == outer + 1:
            part = ("call", part, parts[outer][2])
        else:
            part = ("call", parts[outer][1], part)
        at = outer
    return part


def copies_of(term, node):
    """For each node behind the step at a redex a pair: the node of which it is a copy, and a name.

    The name is that in whose place a copy of the argument begins at this node, or else None.
    """
    parts = parts_of(term)
    sizes = sizes_of(parts)
    argument = node + 2 + sizes[node + 2]
    end = node + sizes[node]
    copies = [(outer, None) for outer in range(node)]
    begin = node + 2
    for name in own_names(parts[node + 1]):
        own = node + 1 + name
        copies.extend([(inner, None) for inner in range(begin, own)])
        copies.append((argument, own))
        copies.extend([(inner, None) for inner in range(argument + 1, end)])
        begin = own + 1
    copies.extend([(inner, None) for inner in range(begin, argument)])
    return copies + [(outer, None) for outer in range(end, len(parts))]
