"""Texts of types, read and written."""

from sharefold.namewords import MOST_NUMBER, word_of
from sharefold.textchecks import check_measures, check_text, read_through
from sharefold.texterrors import NotWritable
from sharefold.typeshapes import is_type_within
from sharefold.typesigns import TypeSigns

MOST_TYPES = 600
MOST_TYPE_HEIGHT = 60


def write_type(value):
    """The text of a type."""
    if not is_type_within(value, MOST_TYPES, MOST_TYPE_HEIGHT, MOST_NUMBER):
        raise NotWritable("not a type that has a text")
    return type_text(value)


def type_text(own):
    if own[0] == "open":
        return word_of(own[1])
    one = type_text(own[1])
    if own[1][0] == "to":
        one = "(" + one + ")"
    return one + ">" + type_text(own[2])


def read_type(text):
    """The type of a text."""
    check_text(text)
    reader = TypeSigns()
    read_through(reader, text)
    own, size, height = reader.ended()
    check_measures(size, height, MOST_TYPES, MOST_TYPE_HEIGHT)
    return own
