"""Ways of families."""

from sharefold.errors import InvalidWay, TooMany
from sharefold.foldings import Folding
from sharefold.folds import check_fold
from sharefold.integers import check_number
from sharefold.termshapes import parts_of, redexes_in
from sharefold.ways import MOST_STEPS


def family_of_leftmost(term, words):
    redexes = redexes_in(parts_of(term))
    return words[redexes[0] + 1] if redexes else None


def leftmost_family(fold):
    """The family of the leftmost redex, or None."""
    check_fold(fold)
    return family_of_leftmost(fold[0], fold[1])


def unfolded(fold, most):
    """The longest way of families of leftmost redexes of at most so many steps, and the fold behind it."""
    check_fold(fold)
    check_number(most, 0, MOST_STEPS)
    folding = Folding(fold)
    way = []
    while len(way) < most:
        family = family_of_leftmost(folding.term, folding.words)
        if family is None:
            break
        try:
            folding.do_family(family)
        except TooMany:
            break
        way.append(family)
    return tuple(way), folding.fold()


def is_family_way(fold, value):
    """Whether any value is a way of families of a fold."""
    check_fold(fold)
    try:
        Folding(fold).follow_families(value)
    except (InvalidWay, TooMany):
        return False
    return True


def walked(fold, way):
    """The fold behind a way of families."""
    check_fold(fold)
    folding = Folding(fold)
    folding.follow_families(way)
    return folding.fold()


def plain_way(fold, way):
    """The ways of the family steps of a way of families, one behind the other."""
    check_fold(fold)
    nodes = Folding(fold).follow_families(way)
    if len(nodes) > MOST_STEPS:
        raise TooMany(MOST_STEPS)
    return tuple(nodes)
