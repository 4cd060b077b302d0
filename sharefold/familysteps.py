"""Marked steps, and family steps."""

from sharefold.foldings import Folding, families_in
from sharefold.folds import check_family, check_fold, check_fold_redex


def marked_step(fold, node):
    """The fold behind the marked step at a redex."""
    check_fold_redex(fold, node)
    folding = Folding(fold)
    folding.mark(node)
    return folding.fold()


def family_step(fold, family):
    """The fold behind a family step."""
    check_fold(fold)
    check_family(family, families_in(fold[0], fold[1]))
    folding = Folding(fold)
    folding.do_family(family)
    return folding.fold()


def family_way(fold, family):
    """The way of plain steps that a family step is."""
    check_fold(fold)
    families = families_in(fold[0], fold[1])
    check_family(family, families)
    return families[family][::-1]


def marked_way(fold, way):
    """The fold behind marked steps at the redexes of a way of its term, one by one."""
    check_fold(fold)
    folding = Folding(fold)
    folding.follow_nodes(way)
    return folding.fold()
