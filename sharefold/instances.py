"""Typings as fillings of the most general one."""

from sharefold.terms import check_term
from sharefold.typings import check_typing, whole_order


def fillings_of(term, types):
    """The fillings by which a typing comes of the most general one."""
    check_typing(term, types)
    fillings = {}
    waiting = list(zip(whole_order(term).types(), types))
    while waiting:
        own, told = waiting.pop()
        if own[0] == "open":
            fillings[own[1]] = told
        else:
            waiting.extend(list(zip(own[1:], told[1:])))
    return tuple([fillings[number] for number in range(len(fillings))])


def open_count(term):
    """How many open ones the most general typing of a term has."""
    check_term(term)
    return len(whole_order(term).open_numbers())
