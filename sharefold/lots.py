"""Lots of redexes, and what is left of them, without any checks but for what is too great."""

from sharefold.integers import is_integer
from sharefold.plainsteps import copies_of, stepped
from sharefold.termshapes import parts_of, redexes_in


def is_lot(term, value):
    """Whether any value is a lot of a term."""
    if not isinstance(value, tuple) or not all([is_integer(node) for node in value]):
        return False
    lot = {node: True for node in value}
    return list(value) == [node for node in redexes_in(parts_of(term)) if node in lot]


def left_of(term, node, lot):
    """What is left of a lot behind the step at a redex, which is not too great."""
    if not lot:
        return ()
    kept = {own: True for own in lot}
    return tuple([place for place, (origin, _) in enumerate(copies_of(term, node)) if origin in kept])


def developed_by(term, lot):
    """The term behind the greatest development of a lot, from the greatest redex to the least one."""
    for node in lot[::-1]:
        # What is ahead of the greatest redex stays where it is, so this is all that is left.
        term = stepped(term, node)
    return term
