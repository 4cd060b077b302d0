"""The types of the nodes of terms, and papers that there are none."""

from sharefold.errors import InvalidTyping, NoTypes, TooMany
from sharefold.integers import is_between, is_integer
from sharefold.samevalues import is_same
from sharefold.terms import check_term
from sharefold.termshapes import owners_of, parts_of, sizes_of
from sharefold.typeclasses import TypeClasses, TypeOrder
from sharefold.types import are_types
from sharefold.typeshapes import check_measures


def fits_typing(term, value):
    """Whether any value is a typing of a term whose types can be handed in."""
    check_term(term)
    parts = parts_of(term)
    if not are_types(value) or len(value) != len(parts):
        return False
    sizes = sizes_of(parts)
    for node, part in enumerate(parts):
        if part[0] == "call" and value[node + 1] != ("to", value[node + 1 + sizes[node + 1]], value[node]):
            return False
        if part[0] == "fun" and (value[node][0] != "to" or value[node][2] != value[node + 1]):
            return False
    owners = owners_of(term)
    return all([owner is None or value[owner][1] == value[name] for name, owner in enumerate(owners)])


def has_types(term):
    """Whether there is a typing of a term, of types of any size."""
    check_term(term)
    return order_of(term).is_whole()


def order_of(term):
    """The classes of a term behind all joins, in their order."""
    classes = TypeClasses(term)
    classes.join_all()
    return TypeOrder(classes)


def whole_order(term):
    """The classes of what is a term behind all joins, in their order, if there is a typing."""
    order = order_of(term)
    if not order.is_whole():
        raise NoTypes("the term has no types")
    return order


def check_typing(term, value):
    """Refuse what is no term, then what is no typing of it."""
    if not fits_typing(term, value):
        raise InvalidTyping("not types of the term")


def types_of(term):
    """The word "types" and the most general typing, or the word "clash", joins, and a ring."""
    check_term(term)
    classes = TypeClasses(term)
    joins = classes.join_all()
    order = TypeOrder(classes)
    if not order.is_whole():
        return "clash", tuple(joins), order.ring()
    check_measures(order.measures())
    return "types", order.types()


def takes_types(term, value):
    """Whether any value is the most general typing of a term, or a clash of it, each with its word."""
    check_term(term)
    if isinstance(value, tuple) and len(value) == 3 and value[0] == "clash":
        return is_clash(term, value[1], value[2])
    order = order_of(term)
    if not order.is_whole():
        return False
    try:
        check_measures(order.measures())
    except TooMany:
        return False
    return is_same(value, ("types", order.types()))


def is_clash(term, joins, ring):
    """Whether any values are the joins and the ring of a clash of a term."""
    classes = TypeClasses(term)
    most = 2 * classes.many
    if not isinstance(joins, tuple) or not isinstance(ring, tuple) or len(joins) > most:
        return False
    if len(ring) < 1 or len(ring) > most or not all([is_ring_pair(pair, classes) for pair in ring]):
        return False
    for pair in joins:
        if not is_join(pair, classes):
            return False
        classes.join(pair[0], pair[1])
    return all([classes.part(*pair) == classes.spoken(after[0]) for pair, after in zip(ring, ring[1:] + ring[:1])])


def is_pair(value):
    return isinstance(value, tuple) and len(value) == 2


def is_arrow(value, classes):
    return is_integer(value) and value in classes.arrows


def is_join(value, classes):
    """Whether any value is a pair of arrows that speak of one class."""
    if not is_pair(value) or not is_arrow(value[0], classes) or not is_arrow(value[1], classes):
        return False
    return classes.spoken(value[0]) == classes.spoken(value[1])


def is_ring_pair(value, classes):
    """Whether any value is a pair of an arrow and of the number of one of its parts."""
    return is_pair(value) and is_arrow(value[0], classes) and is_between(value[1], 0, 1)
