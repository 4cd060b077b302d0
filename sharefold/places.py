"""Where in the text written of a term its nodes stand."""

from sharefold.integers import check_number
from sharefold.terms import check_term
from sharefold.termshapes import parts_of, redexes_in
from sharefold.termwriter import TermWriter


def places_of(term):
    """The list of the pairs (begin, end) of where the texts of the nodes stand."""
    check_term(term)
    return TermWriter(term).places


def node_at(term, place):
    """The greatest node in whose text the character with an index is."""
    check_term(term)
    writer = TermWriter(term)
    check_number(place, 0, writer.length - 1)
    return max([node for node, (begin, end) in enumerate(writer.places) if begin <= place < end])


def redex_marks(term):
    """A string as long as the text, with a mark where the text of a redex begins, and blanks."""
    check_term(term)
    writer = TermWriter(term)
    marks = [" "] * writer.length
    for node in redexes_in(parts_of(term)):
        marks[writer.places[node][0]] = "^"
    return "".join(marks)
