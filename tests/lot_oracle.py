"""What is left of lots, and developments, step by step as they are told."""

from sharefold.errors import TooMany
from sharefold.steps import redexes, step
from tests.samples import slow_step


def slow_left(term, node, lot):
    """The term behind a step, and what is left of a lot there."""
    behind, origins = slow_step(term, node)
    return behind, tuple([place for place, own in enumerate(origins) if own in lot and own != node])


def slow_development(term, lot):
    """The greatest development of a lot, and the term behind it."""
    way = []
    while lot:
        way.append(lot[-1])
        term, lot = slow_left(term, lot[-1], lot)
    return tuple(way), term


def random_lot(dice, term):
    return tuple([node for node in redexes(term) if dice.random() < 0.6])


def random_development(dice, term, lot, most=60):
    """A development of a lot in any order, of at most so many steps, with the term behind it; or None."""
    way = []
    while lot:
        if len(way) == most:
            return None
        node = dice.choice(lot)
        way.append(node)
        try:
            step(term, node)
        except TooMany:
            return None
        term, lot = slow_left(term, node, lot)
    return tuple(way), term
