"""The moves of readings through nets, without any checks but for what is too great."""

from sharefold.errors import TooMany
from sharefold.levels import with_empty, with_mark, with_pair, without_empty, without_mark, without_pair
from sharefold.netparts import ROOT, SHARERS

MOST_MOVES = 20000


def passed_through(kind, index, port, context):
    """The port by which a reading leaves a fan, open or box, and the context then; None if it is stuck."""
    if kind == "fan":
        return without_mark(context, index) if port == 0 else (0, with_mark(context, index, port))
    if port == 1:
        return 0, with_empty(context, index) if kind == "open" else with_pair(context, index)
    behind = without_empty(context, index) if kind == "open" else without_pair(context, index)
    return None if behind is None else (1, behind)


def move_from(nodes, end, context):
    """What becomes of a reading that comes to an end of a node: a word, an end, and a context."""
    kind, index, joints = nodes[end[0]]
    if kind not in SHARERS:
        return "met", end, context
    passed = passed_through(kind, index, end[1], context)
    if passed is None:
        return "stuck", end, context
    port, context = passed
    return "on", joints[port], context


def way_on(nodes, end, context, moves):
    """The way of a reading that has made so many moves, from an end to where it meets a node, or is stuck.

    This is told by the word "met" or "stuck", the list of the ends to which it comes, and the context
    in the end.
    """
    ends = []
    word = "on"
    while word == "on":
        ends.append(end)
        if end == () or end == ROOT:
            return "stuck", ends, context
        if moves + len(ends) > MOST_MOVES:
            raise TooMany(MOST_MOVES)
        word, end, context = move_from(nodes, end, context)
    return word, ends, context
