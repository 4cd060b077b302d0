"""Redexes and plain steps."""

from sharefold.errors import NotRedex
from sharefold.plainsteps import copies_of, stepped
from sharefold.terms import check_term, checked_parts
from sharefold.termshapes import is_redex_part, parts_of, redexes_in


def redexes(term):
    """The ascending list of the redexes of a term."""
    check_term(term)
    return redexes_in(parts_of(term))


def is_normal(term):
    """Whether a term has no redex."""
    return not redexes(term)


def leftmost(term):
    """The least redex of a term, or None."""
    found = redexes(term)
    return found[0] if found else None


def check_redex(term, node):
    """Refuse what is no term, then what is no node of it, then what is no redex."""
    if not is_redex_part(checked_parts(term, node)[node]):
        raise NotRedex("not a redex of the term")


def step(term, node):
    """The term behind the plain step at a redex."""
    check_redex(term, node)
    return stepped(term, node)


def origins(term, node):
    """The list of the nodes of which the nodes behind the plain step at a redex are copies."""
    check_redex(term, node)
    # Only the step itself tells whether it would be too great.
    stepped(term, node)
    return [origin for origin, _ in copies_of(term, node)]
