"""Texts of terms, read and written."""

from sharefold.terms import check_term
from sharefold.termshapes import MOST_HEIGHT, MOST_NODES
from sharefold.termsigns import TERM_SIGNS, TermSigns
from sharefold.termwriter import written
from sharefold.textchecks import check_measures, check_text, read_through, refused_at


def read_term(text):
    """The term of a text."""
    check_text(text)
    reader = TermSigns()
    read_through(reader, text)
    term, size, height = reader.ended()
    check_measures(size, height, MOST_NODES, MOST_HEIGHT)
    return term


def first_refused(text):
    """The index at which a text is refused as one of a term, or None."""
    check_text(text)
    return refused_at(TermSigns(), text)


def signs_on(text):
    """The ascending string of all characters with which a text of a term can go on."""
    check_text(text)
    reader = TermSigns()
    place = refused_at(reader, text)
    if place is not None and place < len(text):
        return ""
    return "".join([sign for sign in TERM_SIGNS if reader.takes(sign)])


def write_term(term):
    """The text written of a term."""
    check_term(term)
    return written(term)
