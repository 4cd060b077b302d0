"""The degrees of redexes, and ways of steps of the greatest degree."""

from sharefold.errors import TooMany
from sharefold.integers import check_number
from sharefold.plainsteps import copies_of, stepped
from sharefold.steps import check_redex
from sharefold.terms import check_term
from sharefold.termshapes import parts_of, redexes_in
from sharefold.typings import whole_order
from sharefold.ways import MOST_STEPS


def heights_of(term):
    """The list of the heights of the types of all nodes, in the most general typing."""
    return [height for _, height in whole_order(term).measures()]


def degrees_in(term, heights):
    """The list of the pairs (degree, redex) of all redexes, where the types have these heights."""
    return [(heights[node + 1], node) for node in redexes_in(parts_of(term))]


def degree_of(term, node):
    """The degree of a redex in the most general typing."""
    check_redex(term, node)
    return heights_of(term)[node + 1]


def degree_counts(term):
    """The ascending tuple of the pairs of a degree, and of how many redexes have it."""
    check_term(term)
    counts = {}
    for degree, _ in degrees_in(term, heights_of(term)):
        counts[degree] = counts.get(degree, 0) + 1
    return tuple(sorted(counts.items()))


def degree_redex(term):
    """The redex of the first step by degrees, or None."""
    check_term(term)
    found = degrees_in(term, heights_of(term))
    return max(found)[1] if found else None


def degree_way(term, most):
    """The longest way by degrees of at most so many steps, the degrees of these, and the term behind it."""
    check_term(term)
    check_number(most, 0, MOST_STEPS)
    heights = heights_of(term)
    way = []
    degrees = []
    while len(way) < most:
        found = degrees_in(term, heights)
        if not found:
            break
        degree, node = max(found)
        try:
            behind = stepped(term, node)
        except TooMany:
            break
        # Types are kept by the copies of nodes, so their heights are, too.
        heights = [heights[origin] for origin, _ in copies_of(term, node)]
        way.append(node)
        degrees.append(degree)
        term = behind
    return tuple(way), tuple(degrees), term
