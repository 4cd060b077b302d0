"""Runs: live edges of the nets of terms, done one behind the other."""

from sharefold.errors import InvalidNumbers, InvalidRun, TooMany
from sharefold.integers import is_between
from sharefold.liveedges import edges_in
from sharefold.netreadings import reading_of
from sharefold.runnings import MOST_PAIRS, Running, is_run_form, running_of
from sharefold.terms import check_term

GREATEST_NUMBER = 1000000


def is_run(term, value):
    """Whether any value is a run of a term."""
    check_term(term)
    if not is_run_form(value):
        return False
    running = Running(term)
    try:
        running.follow(value)
    except (InvalidRun, TooMany):
        return False
    return True


def net_behind(term, run):
    """The net at the end of a run."""
    check_term(term)
    return running_of(term, run).net


def term_behind(term, run):
    """The term that is read at the end of a run."""
    return reading_of(net_behind(term, run)).term


def check_numbers(value):
    if not isinstance(value, tuple) or len(value) > MOST_PAIRS:
        raise InvalidNumbers(f"not a tuple of at most {MOST_PAIRS} numbers")
    if not all([is_between(number, 0, GREATEST_NUMBER) for number in value]):
        raise InvalidNumbers(f"not integers from 0 to {GREATEST_NUMBER}")


def run_by(term, numbers):
    """The run that for each number does the live edge with the index of its rest by how many there are."""
    check_term(term)
    check_numbers(numbers)
    running = Running(term)
    for number in numbers:
        edges = edges_in(running.net[1])
        if not edges:
            break
        running.do(edges[number % len(edges)])
    return tuple(running.edges)
