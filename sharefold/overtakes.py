"""Full steps, which overtake all ways."""

from sharefold.errors import TooMany
from sharefold.integers import check_number
from sharefold.lotrows import left_row, way_of_row
from sharefold.lots import developed_by
from sharefold.terms import check_term
from sharefold.termshapes import parts_of, redexes_in
from sharefold.ways import followed, is_way

MOST_FULL_STEPS = 20


def told_full_steps(term, many):
    """The list of the term and of those behind so many full steps, and that of the lots of these."""
    terms = [term]
    lots = []
    while len(lots) < many:
        lots.append(tuple(redexes_in(parts_of(terms[-1]))))
        terms.append(developed_by(terms[-1], lots[-1]))
    return terms, lots


def full_steps(term, many):
    """The list of the term and of those behind so many full steps, in turn."""
    check_term(term)
    check_number(many, 0, MOST_FULL_STEPS)
    return told_full_steps(term, many)[0]


def checked_terms(term, way):
    """The terms along a way that full steps are to overtake."""
    check_term(term)
    terms = followed(term, way)
    if len(way) > MOST_FULL_STEPS:
        raise TooMany(MOST_FULL_STEPS)
    return terms


def overtaking(term, way):
    """A way from the term behind a way to that behind as many full steps."""
    terms = checked_terms(term, way)
    row = told_full_steps(term, len(way))[1]
    for ahead, node in zip(terms, way):
        row, _ = left_row(ahead, row, (node,))
    return way_of_row(terms[-1], row)


def takes_overtaking(term, way, value):
    """Whether any value is a way from the term behind a way to that behind as many full steps."""
    behind = checked_terms(term, way)[-1]
    beyond = told_full_steps(term, len(way))[0][-1]
    return is_way(behind, value) and followed(behind, value)[-1] == beyond
