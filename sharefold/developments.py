"""Developments of lots of redexes."""

from sharefold.errors import TooMany
from sharefold.integers import is_integer
from sharefold.lots import developed_by, left_of
from sharefold.plainsteps import stepped
from sharefold.residuals import check_lot
from sharefold.terms import check_term
from sharefold.termshapes import parts_of, redexes_in
from sharefold.ways import MOST_STEPS


def development(term, lot):
    """The greatest development of a lot."""
    check_term(term)
    check_lot(term, lot)
    developed_by(term, lot)
    return lot[::-1]


def developed(term, lot):
    """The term behind the greatest development of a lot."""
    check_term(term)
    check_lot(term, lot)
    return developed_by(term, lot)


def is_development(term, lot, value):
    """Whether any value is a development of a lot."""
    check_term(term)
    check_lot(term, lot)
    if not isinstance(value, tuple) or len(value) > MOST_STEPS:
        return False
    for node in value:
        if not is_integer(node) or node not in lot:
            return False
        try:
            behind = stepped(term, node)
        except TooMany:
            return False
        lot = left_of(term, node, lot)
        term = behind
    return lot == ()


def full_way(term):
    """The greatest development of all redexes of a term."""
    check_term(term)
    return development(term, tuple(redexes_in(parts_of(term))))
