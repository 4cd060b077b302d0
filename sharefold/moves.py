"""The moves of readings through nets."""

from sharefold.contexts import check_context
from sharefold.netmoves import move_from, way_on
from sharefold.netparts import ROOT
from sharefold.netshapes import check_end, check_net


def check_reader(net, end, context):
    """Refuse what is no net, then what is no end of a node of it, then what is no context."""
    check_net(net)
    check_end(end, net[1])
    check_context(context)


def moved(net, end, context):
    """What becomes of a reading that comes to an end."""
    check_reader(net, end, context)
    return move_from(net[1], end, context)


def walked(net, end, context):
    """What becomes of a reading from an end on, until it meets a call, fun or letter, or is stuck."""
    check_reader(net, end, context)
    word, ends, context = way_on(net[1], end, context, 0)
    moves = len(ends)
    if ends[-1] == () or ends[-1] == ROOT:
        moves -= 1
    return word, ends[-1], context, moves
