"""Two ways of a term that are gone on by what is left of the other one till they meet."""

from sharefold.lotrows import check_many, left_row, way_of_row
from sharefold.residuals import check_lot
from sharefold.terms import check_term
from sharefold.trails import tail_behind, trail_of, way_of
from sharefold.ways import followed, is_way


def way_behind(term, way, lot):
    """The tail of a way behind a lot, and what is left of the lot along the way."""
    check_term(term)
    trail = trail_of(term, way)
    check_lot(term, lot)
    tail, left = tail_behind(trail, lot)
    return way_of(tail), left


def meeting(term, one, other):
    """The tails of two ways, which lead from behind each of them to one term."""
    check_term(term)
    behind = followed(term, one)[-1]
    terms = followed(term, other)
    row = [(node,) for node in one]
    noted = []
    for ahead, node in zip(terms, other):
        row, left = left_row(ahead, row, (node,))
        noted.append(left)
        check_many(noted)
    return way_of_row(behind, noted), way_of_row(terms[-1], row)


def takes_meeting(term, one, other, value):
    """Whether any value is a pair of ways from behind two ways of a term that lead to one term."""
    check_term(term)
    behind = followed(term, one)[-1]
    beyond = followed(term, other)[-1]
    if not isinstance(value, tuple) or len(value) != 2:
        return False
    if not is_way(behind, value[0]) or not is_way(beyond, value[1]):
        return False
    return followed(behind, value[0])[-1] == followed(beyond, value[1])[-1]
