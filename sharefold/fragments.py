"""Terms that are affine, linear or flat, and all ways of affine ones."""

from sharefold.affineterms import AffineWays
from sharefold.errors import NotAffine
from sharefold.terms import check_term
from sharefold.termshapes import owners_of, parts_of
from sharefold.typings import order_of


def names_by_fun(term):
    """For each function's node the list of the nodes of its names."""
    names = {node: [] for node, part in enumerate(parts_of(term)) if part[0] == "fun"}
    for node, owner in enumerate(owners_of(term)):
        if owner is not None:
            names[owner].append(node)
    return names


def counts_of_names(term):
    """The list of how many names each function has."""
    return [len(own) for own in names_by_fun(term).values()]


def fun_count(term):
    """How many functions a term has."""
    check_term(term)
    return len(counts_of_names(term))


def is_affine(term):
    """Whether each function has at most one name."""
    check_term(term)
    return all([many <= 1 for many in counts_of_names(term)])


def is_linear(term):
    """Whether each function has just one name."""
    check_term(term)
    return all([many == 1 for many in counts_of_names(term)])


def is_flat(term):
    """Whether there is a typing, with an open type at the names of each function that has more than one."""
    check_term(term)
    order = order_of(term)
    if not order.is_whole():
        return False
    return all([order.is_open(own[0]) for own in names_by_fun(term).values() if len(own) > 1])


def affine_lengths(term):
    """The least and the greatest number of steps of all ways of an affine term to its normal form, and this."""
    if not is_affine(term):
        raise NotAffine("a function has more than one name")
    ways = AffineWays(term)
    least, greatest = ways.lengths()
    return least, greatest, ways.normal_form()
