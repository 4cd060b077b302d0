"""What is left of lots, and developments, step by step as they are told."""

from tests.samples import slow_step


def slow_left(term, node, lot):
    """The term behind a step, and what is left of a lot there."""
    behind, origins = slow_step(term, node)
    return behind, tuple([place for place, own in enumerate(origins) if own in lot and own != node])


def slow_development(term, lot):
    """The greatest development of a lot, and the term behind it."""
    way = []
    while lot:
        way.append(lot[-1])
        term, lot = slow_left(term, lot[-1], lot)
    return tuple(way), term
