"""What nets are read as."""

from sharefold.errors import NotRead
from sharefold.netreadings import reading_of
from sharefold.netshapes import check_net
from sharefold.samevalues import is_same


def checked_reading(net):
    check_net(net)
    return reading_of(net)


def read_term(net):
    """The term as which a net is read."""
    return checked_reading(net).term


def places_of(net):
    """The places of a net, in the order of the nodes of its term."""
    return tuple(checked_reading(net).places)


def moves_of(net):
    """How many moves the reading of a net makes."""
    return checked_reading(net).moves


def stuck_at(net):
    """The end at which the reading of a net is stuck, or None."""
    check_net(net)
    try:
        reading_of(net)
    except NotRead as error:
        return error.end
    return None


def is_reading(net, value):
    """Whether any value is the pair of the term and of the places of a net."""
    reading = checked_reading(net)
    return is_same(value, (reading.term, tuple(reading.places)))
