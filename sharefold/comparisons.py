"""Terms compared by ways of both."""

from sharefold.errors import TooMany
from sharefold.integers import check_number
from sharefold.plainsteps import stepped
from sharefold.termcodes import code_of
from sharefold.terms import check_term
from sharefold.termshapes import parts_of, redexes_in
from sharefold.ways import MOST_STEPS, followed, is_way, leftmost_way

MOST_NEAR_STEPS = 6
MOST_NEAR_TERMS = 300


class NearTerms:
    """The unlike terms behind all ways of a term of at most so many steps, each with one of the fewest steps."""

    def __init__(self, term, most):
        self.terms = [term]
        self.ways = [()]
        self.places = {code_of(term): 0}
        begin = 0
        for _ in range(most):
            end = len(self.terms)
            for place in range(begin, end):
                self._step_from(place)
            begin = end

    def _step_from(self, place):
        """Note the terms behind all steps of a term that are not too great."""
        term = self.terms[place]
        for node in redexes_in(parts_of(term)):
            try:
                behind = stepped(term, node)
            except TooMany:
                continue
            self._note(behind, (*self.ways[place], node))

    def _note(self, term, way):
        code = code_of(term)
        if code in self.places:
            return
        if len(self.terms) == MOST_NEAR_TERMS:
            raise TooMany(MOST_NEAR_TERMS)
        self.places[code] = len(self.terms)
        self.terms.append(term)
        self.ways.append(way)

    def way_to(self, term):
        """One of the ways of the fewest steps to a term, or None."""
        place = self.places.get(code_of(term))
        return None if place is None else self.ways[place]


def reached_within(term, most):
    """The ascending list of the unlike terms behind all ways of a term of at most so many steps."""
    check_term(term)
    check_number(most, 0, MOST_NEAR_STEPS)
    return sorted(NearTerms(term, most).terms)


def way_within(term, other, most):
    """A way of the fewest steps, at most so many, that leads from a term to another one, or None."""
    check_term(term)
    check_term(other)
    check_number(most, 0, MOST_NEAR_STEPS)
    return NearTerms(term, most).way_to(other)


def is_normal_term(term):
    return not redexes_in(parts_of(term))


def compared(term, other, most):
    """A comparison by the leftmost ways of at most so many steps of two terms, or ("open",)."""
    check_term(term)
    check_term(other)
    check_number(most, 0, MOST_STEPS)
    way, behind = leftmost_way(term, most)
    way_beyond, beyond = leftmost_way(other, most)
    if not is_normal_term(behind) or not is_normal_term(beyond):
        return ("open",)
    return "one" if behind == beyond else "unlike", way, way_beyond


def takes_compared(term, other, value):
    """Whether any value is a comparison of two terms."""
    check_term(term)
    check_term(other)
    if not isinstance(value, tuple) or len(value) != 3:
        return False
    word, way, way_beyond = value
    if not is_way(term, way) or not is_way(other, way_beyond):
        return False
    behind, beyond = followed(term, way)[-1], followed(other, way_beyond)[-1]
    if word == "one":
        return behind == beyond
    return word == "unlike" and behind != beyond and is_normal_term(behind) and is_normal_term(beyond)
