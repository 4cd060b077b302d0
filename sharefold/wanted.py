"""The live edges that readings pass, and the one that is wanted."""

from sharefold.liveedges import check_edge
from sharefold.netreadings import reading_of
from sharefold.readings import checked_reading


def passed_edges(net):
    """The tuple of the live edges that the reading passes, in the order in which it first does."""
    reading = checked_reading(net)
    edges = {}
    for way in reading.ways:
        for edge in reading.edges_on(way):
            edges[edge] = True
    return tuple(edges)


def passed_by(net, edge):
    """The ascending tuple of the nodes of the term on whose way the reading passes a live edge."""
    check_edge(net, edge)
    reading = reading_of(net)
    return tuple([node for node, way in enumerate(reading.ways) if edge in reading.edges_on(way)])


def wanted_edge(net):
    """The wanted edge of a net, or None."""
    return checked_reading(net).wanted_edge()


def wanted_way(net):
    """The least redex of the term that is read, and the tuple of the passes from its call to its fun, or None."""
    reading = checked_reading(net)
    redex = reading.least_redex()
    if redex is None:
        return None
    return redex, tuple(reading.wanted_passes())
