"""Terms, and the nodes of terms."""

from sharefold.errors import InvalidNode, InvalidTerm
from sharefold.integers import is_between, is_integer
from sharefold.termshapes import MOST_HEIGHT, MOST_NODES, aboves_of, below
from sharefold.termshapes import measured_height, owners_of, parts_of, sizes_of


def is_term(value):
    """Whether any value is a term."""
    nodes = 0
    waiting = [(value, 1, 0)]
    while waiting:
        part, height, around = waiting.pop()
        nodes += 1
        if nodes > MOST_NODES or height > MOST_HEIGHT or not is_part(part, around):
            return False
        if part[0] == "fun":
            around += 1
        waiting.extend([(own, height + 1, around) for own in below(part)])
    return True


def is_part(value, around):
    """Whether a value is a term, if its parts are, with so many functions around it."""
    if not isinstance(value, tuple) or len(value) < 2:
        return False
    if value[0] == "call":
        return len(value) == 3
    if len(value) != 2:
        return False
    if value[0] == "name":
        return is_between(value[1], 0, around - 1)
    if value[0] == "letter":
        return is_capital(value[1])
    return value[0] == "fun"


def is_capital(value):
    return isinstance(value, str) and len(value) == 1 and "A" <= value <= "Z"


def check_term(value):
    if not is_term(value):
        raise InvalidTerm("not a term")


def check_node(value, many):
    """Refuse a value that is no node of a term with so many nodes."""
    if not is_integer(value) or value < 0 or value >= many:
        raise InvalidNode("not a node of the term")


def checked_parts(term, node):
    check_term(term)
    parts = parts_of(term)
    check_node(node, len(parts))
    return parts


def check_kind(part, kind):
    if part[0] != kind:
        raise InvalidNode(f"not the node of a {kind}")


def size_of(term):
    """How many nodes a term has."""
    check_term(term)
    return len(parts_of(term))


def height_of(term):
    """The height of a term."""
    check_term(term)
    return measured_height(term)


def kinds_of(term):
    """The list of the kinds of the nodes."""
    check_term(term)
    return [part[0] for part in parts_of(term)]


def part_at(term, node):
    """The term at a node, its names as they stand there."""
    return checked_parts(term, node)[node]


def above(term, node):
    """The node in which a node is directly, None for the first one."""
    parts = checked_parts(term, node)
    return aboves_of(parts, sizes_of(parts))[node]


def fun_of(term, node):
    """The node of the function of a name's node."""
    parts = checked_parts(term, node)
    check_kind(parts[node], "name")
    return owners_of(term)[node]


def names_of(term, node):
    """The ascending tuple of the nodes of the names of a function's node."""
    parts = checked_parts(term, node)
    check_kind(parts[node], "fun")
    return tuple([name for name, owner in enumerate(owners_of(term)) if owner == node])
