"""Agreements: the families of leftmost redexes, which are the lots of folds."""

from sharefold.errors import TooMany
from sharefold.foldings import Folding, first_fold
from sharefold.integers import check_number
from sharefold.samevalues import is_same
from sharefold.terms import check_term
from sharefold.termshapes import parts_of, redexes_in

MOST_TRIPLES = 60


def next_triple(folding):
    """The triple of the next leftmost family step, which is done; None if the term is normal."""
    redexes = redexes_in(parts_of(folding.term))
    if not redexes:
        return None
    family = folding.words[redexes[0] + 1]
    lot = folding.families()[family]
    folding.do_family(family)
    return redexes[0], lot, folding.term


def agreement(term, most):
    """The agreement of at most so many triples."""
    check_term(term)
    check_number(most, 0, MOST_TRIPLES)
    folding = Folding(first_fold(term))
    triples = []
    while len(triples) < most:
        triple = next_triple(folding)
        if triple is None:
            break
        triples.append(triple)
    return tuple(triples)


def shows_agreement(term, value):
    """Whether any value is an agreement of a term."""
    check_term(term)
    if not isinstance(value, tuple) or len(value) > MOST_TRIPLES:
        return False
    folding = Folding(first_fold(term))
    for told in value:
        try:
            triple = next_triple(folding)
        except TooMany:
            return False
        if triple is None or not is_same(told, triple):
            return False
    return True
