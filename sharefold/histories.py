"""What the words of families tell of the steps ahead."""

from sharefold.errors import InvalidNode
from sharefold.foldings import Folding, families_in, first_fold
from sharefold.folds import check_family, check_fold
from sharefold.plainsteps import is_redex
from sharefold.terms import check_term
from sharefold.wordbooks import Likeness, needs_in


def history_of(fold, family):
    """The ascending tuple of the needs of a family's word."""
    check_fold(fold)
    check_family(family, families_in(fold[0], fold[1]))
    return needs_in(fold[2], family)


def again(term, way, family):
    """The way of those families of a way alone that a family needs, and the redexes of this one behind it."""
    check_term(term)
    folding = Folding(first_fold(term))
    folding.follow_families(way)
    check_family(family, folding.families())
    needs = needs_in(folding.book, family)
    likeness = Likeness()
    wanted = likeness.numbers(folding.book, ())
    repeated = Folding(first_fold(term))
    numbers = likeness.numbers(repeated.book, ())
    steps = []
    for need in [own for own in way if own in needs]:
        steps.append(numbers.index(wanted[need]))
        repeated.do_family(steps[-1])
        numbers = likeness.numbers(repeated.book, numbers)
    return tuple(steps), repeated.families()[numbers.index(wanted[family])]


def relatives(term, way, node, other, place):
    """Whether the families of redexes behind marked steps along two ways of a term have like words."""
    check_term(term)
    likeness = Likeness()
    number = family_number(term, way, node, likeness)
    return number == family_number(term, other, place, likeness)


def family_number(term, way, node, likeness):
    """The number of the word of the family of a redex behind marked steps along a way of a term."""
    folding = Folding(first_fold(term))
    folding.follow_nodes(way)
    if not is_redex(folding.term, node):
        raise InvalidNode("not a redex of the term then")
    return likeness.numbers(folding.book, ())[folding.words[node + 1]]
