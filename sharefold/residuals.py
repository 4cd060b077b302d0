"""What is left of lots of redexes behind steps."""

from sharefold.errors import InvalidLot
from sharefold.lots import is_lot, left_of
from sharefold.plainsteps import stepped
from sharefold.steps import check_redex
from sharefold.terms import check_term
from sharefold.ways import followed


def check_lot(term, value):
    if not is_lot(term, value):
        raise InvalidLot("not a lot of the term")


def left_behind(term, node, lot):
    """What is left of a lot behind the step at a redex."""
    check_redex(term, node)
    check_lot(term, lot)
    # Only the step itself tells whether it would be too great.
    stepped(term, node)
    return left_of(term, node, lot)


def left_along(term, way, lot):
    """What is left of a lot along a way."""
    check_term(term)
    terms = followed(term, way)
    check_lot(term, lot)
    for node, own in zip(way, terms):
        lot = left_of(own, node, lot)
    return lot
