"""Rows of lots, and what is left of them behind lots, without any checks but for what is too great."""

from sharefold.errors import TooMany
from sharefold.lots import developed_by, left_of
from sharefold.plainsteps import stepped
from sharefold.ways import MOST_STEPS


def check_many(lots):
    """Refuse lots with too many redexes in all."""
    if sum([len(lot) for lot in lots]) > MOST_STEPS:
        raise TooMany(MOST_STEPS)


def developed_with(term, lot, other):
    """The term behind the greatest development of a lot, and what is left of another lot along it."""
    for node in lot[::-1]:
        behind = stepped(term, node)
        other = left_of(term, node, other)
        term = behind
    return term, other


def left_row(term, row, lot):
    """What is left of a row of lots behind a lot, and of this lot behind the row."""
    left = []
    for own in row:
        left.append(developed_with(term, lot, own)[1])
        check_many(left)
        term, lot = developed_with(term, own, lot)
    return left, lot


def way_of_row(term, row):
    """The greatest developments of the lots of a row, one behind the other."""
    way = []
    for lot in row:
        term = developed_by(term, lot)
        way.extend(lot[::-1])
    return tuple(way)
