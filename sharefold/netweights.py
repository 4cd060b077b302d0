"""The wanted edges at the ends of runs, and how much is ahead of their folds."""

from sharefold.netreadings import reading_of
from sharefold.runnings import running_of
from sharefold.terms import check_term


def reading_behind(term, run):
    """The reading at the end of a run."""
    check_term(term)
    return reading_of(running_of(term, run).net)


def words_of(reading):
    """The tuple of the words of the passes from the wanted call on, or None."""
    if reading.least_redex() is None:
        return None
    return tuple([word for _, word in reading.wanted_passes()])


def wanted_behind(term, run):
    """The wanted edge at the end of a run, or None."""
    return reading_behind(term, run).wanted_edge()


def passes_behind(term, run):
    """The tuple of the words "in" and "out" of the passes at the end of a run, or None."""
    return words_of(reading_behind(term, run))


def weight_behind(term, run):
    """The weight at the end of a run."""
    words = words_of(reading_behind(term, run))
    if words is None:
        return -1
    pairs = [words[:place].count("out") for place, word in enumerate(words) if word == "in"]
    return len(words) + sum(pairs)
