"""The nets behind doings of live edges."""

from sharefold.liveedges import check_edge
from sharefold.netdoings import doing_of
from sharefold.samevalues import is_same


def done(net, edge):
    """The net behind the doing of a live edge."""
    return done_paper(net, edge)[0]


def done_paper(net, edge):
    """The net behind the doing of a live edge, and the origins of its nodes."""
    check_edge(net, edge)
    return doing_of(net, edge)


def is_done_paper(net, edge, value):
    """Whether any value is the pair of the net behind the doing of a live edge, and of the origins."""
    return is_same(value, done_paper(net, edge))
