"""What runs do in terms of plain steps."""

from sharefold.errors import TooMany
from sharefold.lots import developed_by
from sharefold.netreadings import reading_of
from sharefold.runnings import running_of
from sharefold.terms import check_term
from sharefold.ways import MOST_STEPS


def run_lots(term, run):
    """The list of the lots of the edges of a run."""
    check_term(term)
    running = running_of(term, run)
    return [() if net is None else reading_of(net).lot_of(edge) for edge, net in zip(running.edges, running.nets)]


def run_way(term, run):
    """The way of a run: the developments of its lots, one behind the other."""
    check_term(term)
    running = running_of(term, run)
    way = []
    for edge, net in zip(running.edges, running.nets):
        if net is not None:
            reading = reading_of(net)
            lot = reading.lot_of(edge)
            # Only the steps themselves tell whether one would be too great.
            developed_by(reading.term, lot)
            way.extend(lot[::-1])
    if len(way) > MOST_STEPS:
        raise TooMany(MOST_STEPS)
    return tuple(way)


def counts_of(term, run):
    """How many edges of a run are of a call and a fun, of alike ones, of unlike index, with a letter."""
    check_term(term)
    sorts = running_of(term, run).sorts
    return tuple([sorts.count(sort) for sort in ("call", "alike", "unlike", "letter")])
