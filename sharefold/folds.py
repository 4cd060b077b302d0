"""Folds: terms whose nodes bear words."""

from sharefold.errors import InvalidFamily, InvalidFold, NotRedex
from sharefold.foldings import families_in, first_fold
from sharefold.integers import is_between, is_integer
from sharefold.terms import check_node, check_term, is_term
from sharefold.termshapes import is_redex_part, parts_of
from sharefold.wordbooks import is_book


def begun(term):
    """The fold with which a term begins."""
    check_term(term)
    return first_fold(term)


def is_fold(value):
    """Whether any value is a fold."""
    if not isinstance(value, tuple) or len(value) != 3:
        return False
    term, words, book = value
    if not is_term(term) or not isinstance(words, tuple) or len(words) != len(parts_of(term)):
        return False
    return is_book(book) and all([is_between(word, 0, len(book) - 1) for word in words])


def check_fold(value):
    if not is_fold(value):
        raise InvalidFold("not a fold")


def check_fold_node(fold, node):
    """Refuse what is no fold, then what is no node of its term."""
    check_fold(fold)
    check_node(node, len(fold[1]))


def check_fold_redex(fold, node):
    """Refuse what is no fold, then what is no node of its term, then what is no redex."""
    check_fold_node(fold, node)
    if not is_redex_part(parts_of(fold[0])[node]):
        raise NotRedex("not a redex of the fold's term")


def check_family(value, families):
    """Refuse a value that is none of the families of the redexes of a fold."""
    if not is_integer(value) or value not in families:
        raise InvalidFamily("not a family of a redex")


def word_at(fold, node):
    """The word, as its marks, of a node."""
    check_fold_node(fold, node)
    return fold[2][fold[1][node]]


def family_at(fold, node):
    """The family of a redex."""
    check_fold_redex(fold, node)
    return fold[1][node + 1]


def families_of(fold):
    """The ascending tuple of the pairs of a family, and of the ascending tuple of its redexes."""
    check_fold(fold)
    families = families_in(fold[0], fold[1])
    return tuple(families.items())
