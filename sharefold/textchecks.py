"""Texts read sign by sign.

A reader of a sort of texts has the methods takes(sign), whether the sign can go on behind those
taken so far, take(sign), which takes such a one, and is_whole(), whether they are a text.
"""

from sharefold.errors import TooMany
from sharefold.texterrors import BadText, InvalidText

MOST_CHARACTERS = 2000


def check_text(value):
    if not isinstance(value, str) or len(value) > MOST_CHARACTERS:
        raise InvalidText(f"not a string of at most {MOST_CHARACTERS} characters")


def refused_at(reader, text):
    """The index at which a reader refuses a text, or None."""
    for index, sign in enumerate(text):
        if not reader.takes(sign):
            return index
        reader.take(sign)
    return None if reader.is_whole() else len(text)


def read_through(reader, text):
    """Let a reader take a whole text, or refuse it."""
    place = refused_at(reader, text)
    if place is not None:
        raise BadText(place)


def check_measures(size, height, most_size, most_height):
    """Refuse what has been read for its size, then for its height."""
    if size > most_size:
        raise TooMany(most_size)
    if height > most_height:
        raise TooMany(most_height)


def is_small(sign):
    return "a" <= sign <= "z"


def is_figure(sign):
    return "0" <= sign <= "9"
