"""Folds: wanted edges of a run done, up to the first one of a call and a fun."""

from sharefold.errors import TooMany
from sharefold.integers import check_number
from sharefold.netreadings import reading_of
from sharefold.runnings import MOST_PAIRS, Running, running_of
from sharefold.terms import check_term
from sharefold.termshapes import parts_of, redexes_in

MOST_FOLDS = 60


def fold_on(running):
    """Let a run go on by a fold; return the lot of its last edge, or None if there is no wanted call."""
    reading = reading_of(running.net)
    if reading.least_redex() is None:
        return None
    while True:
        edge = reading.wanted_edge()
        if len(running.edges) == MOST_PAIRS:
            raise TooMany(MOST_PAIRS)
        running.do(edge)
        if running.sorts[-1] == "call":
            return reading.lot_of(edge)
        reading = reading_of(running.net)


def fold_behind(term, run):
    """The run that is gone on by a fold, or None if there is no wanted call."""
    check_term(term)
    running = running_of(term, run)
    if fold_on(running) is None:
        return None
    return tuple(running.edges)


def folds_of(term, most):
    """The list of the lots of at most so many folds from the start, and what is read behind them."""
    check_term(term)
    check_number(most, 0, MOST_FOLDS)
    running = Running(term)
    lots = []
    while len(lots) < most:
        lot = fold_on(running)
        if lot is None:
            break
        lots.append(lot)
    return lots, reading_of(running.net).term


def folds_to_normal(term, most):
    """The number of folds till a normal form is read, None if these are not at most so many."""
    lots, behind = folds_of(term, most)
    return None if redexes_in(parts_of(behind)) else len(lots)
