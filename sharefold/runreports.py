"""Reports of what runs of nets do, by plain steps that do the same, and ways to the normal form counted."""

from sharefold.errors import InvalidRun, TooMany
from sharefold.foldfamilies import agreement
from sharefold.integers import check_number
from sharefold.netfolds import MOST_FOLDS, folds_to_normal
from sharefold.netlots import run_way
from sharefold.netreadings import reading_of
from sharefold.netruns import run_by, term_behind
from sharefold.plainsteps import stepped
from sharefold.runnings import running_of
from sharefold.samevalues import is_same
from sharefold.terms import check_term
from sharefold.termshapes import parts_of, redexes_in
from sharefold.ways import MOST_STEPS, followed, is_way


def run_report(term, numbers):
    """A report of the run that numbers tell."""
    run = run_by(term, numbers)
    return run, run_way(term, run), term_behind(term, run)


def takes_report(term, value):
    """Whether any value is a report of a term."""
    check_term(term)
    if not isinstance(value, tuple) or len(value) != 3 or not is_way(term, value[1]):
        return False
    run, way, read = value
    try:
        told = reading_of(running_of(term, run).net).term
    except (InvalidRun, TooMany):
        return False
    return is_same(read, told) and followed(term, way)[-1] == told


def leftmost_count(term):
    """How many leftmost plain steps lead from a term to its normal form."""
    many = 0
    redexes = redexes_in(parts_of(term))
    while redexes:
        if many == MOST_STEPS:
            raise TooMany(MOST_STEPS)
        term = stepped(term, redexes[0])
        redexes = redexes_in(parts_of(term))
        many += 1
    return many


def counts_to_normal(term, most):
    """How many folds, leftmost family steps, and leftmost plain steps lead to the normal form, or None."""
    check_term(term)
    check_number(most, 0, MOST_FOLDS)
    folds = folds_to_normal(term, most)
    if folds is None:
        return None
    return folds, len(agreement(term, folds)), leftmost_count(term)
