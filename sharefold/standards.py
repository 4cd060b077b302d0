"""Standard ways: outermost and leftmost steps first."""

from sharefold.errors import TooMany
from sharefold.terms import check_term
from sharefold.trails import tail_behind, traced, trail_of
from sharefold.ways import MOST_STEPS


def first_unsorted(term, way):
    """The unsorted triple of a way with the least later place, and of these the least one, or None."""
    check_term(term)
    trail = trail_of(term, way)
    for later in range(len(trail)):
        found = [(earlier, later, node) for earlier, node in traced(trail, later) if node < trail[earlier].node]
        if found:
            return min(found)
    return None


def is_standard(term, way):
    """Whether a way is standard."""
    return first_unsorted(term, way) is None


def least_done(trail):
    """The least redex of the first term that is done by a way of one step at least."""
    lasts = [traced(trail, place)[-1] for place in range(len(trail))]
    return min([node for place, node in lasts if place == 0])


def first_done(term, way):
    """The least redex of a term that is done by a way, or None."""
    check_term(term)
    trail = trail_of(term, way)
    return least_done(trail) if trail else None


def standard_way(term, way):
    """The standard way of a way."""
    check_term(term)
    trail = trail_of(term, way)
    steps = []
    while trail:
        if len(steps) == MOST_STEPS:
            raise TooMany(MOST_STEPS)
        steps.append(least_done(trail))
        trail, _ = tail_behind(trail, (steps[-1],))
    return tuple(steps)
