"""Ways: plain steps one behind the other."""

from sharefold.errors import InvalidWay, TooMany
from sharefold.integers import check_number
from sharefold.plainsteps import is_redex, stepped
from sharefold.terms import check_term
from sharefold.termshapes import parts_of, redexes_in

MOST_STEPS = 200


def check_way_form(value):
    if not isinstance(value, tuple) or len(value) > MOST_STEPS:
        raise InvalidWay(f"not a tuple of at most {MOST_STEPS} nodes")


def followed(term, way):
    """The list of the terms along a way of what is a term."""
    check_way_form(way)
    terms = [term]
    for node in way:
        if not is_redex(terms[-1], node):
            raise InvalidWay("not a redex of the term then")
        terms.append(stepped(terms[-1], node))
    return terms


def is_way(term, value):
    """Whether any value is a way of a term."""
    check_term(term)
    try:
        followed(term, value)
    except (InvalidWay, TooMany):
        return False
    return True


def walk(term, way):
    """The term behind a way."""
    return terms_along(term, way)[-1]


def terms_along(term, way):
    """The list of the terms along a way, the first and the last one too."""
    check_term(term)
    return followed(term, way)


def leftmost_way(term, most):
    """The longest leftmost way of at most so many steps, and the term behind it."""
    check_term(term)
    check_number(most, 0, MOST_STEPS)
    way = []
    while len(way) < most:
        found = redexes_in(parts_of(term))
        if not found:
            break
        try:
            term = stepped(term, found[0])
        except TooMany:
            break
        way.append(found[0])
    return tuple(way), term


def normal_form(term, most):
    """The term behind the longest leftmost way of at most so many steps, None if it is not normal."""
    behind = leftmost_way(term, most)[1]
    return None if redexes_in(parts_of(behind)) else behind
