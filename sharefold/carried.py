"""Where places are behind the doing of a live edge, and the calls of redexes."""

from sharefold.errors import InvalidEdge, NotRead
from sharefold.liveedges import check_edge
from sharefold.netdoings import doing_of
from sharefold.netmoves import passed_through
from sharefold.netreadings import reading_of


def carried_place(nodes, edge, place):
    """The carried place, its node told by its origin."""
    node, context = place
    if node not in edge:
        return (node, 0), context
    other = edge[1] if node == edge[0] else edge[0]
    kind, index, _ = nodes[other]
    passed = passed_through(kind, index, 0, context)
    if passed is None:
        raise NotRead((other, 0))
    port, context = passed
    return (node, port), context


def carried_places(net, edge):
    """The tuple of the carried places of a net's places, behind the doing of a live edge."""
    if check_edge(net, edge) == "call":
        raise InvalidEdge("an edge of a call and a fun")
    places = reading_of(net).places
    carried = [carried_place(net[1], edge, place) for place in places]
    origins = doing_of(net, edge)[1]
    numbers = {origin: number for number, origin in enumerate(origins)}
    return tuple([(numbers[origin], context) for origin, context in carried])


def calls_through(net, edge):
    """The ascending tuple of the nodes of the term that are read at the call of a live edge."""
    if check_edge(net, edge) != "call":
        raise InvalidEdge("no edge of a call and a fun")
    return reading_of(net).lot_of(edge)
