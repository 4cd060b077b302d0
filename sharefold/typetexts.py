"""Texts of types, read and written."""

from sharefold.integers import is_between
from sharefold.namewords import MOST_NUMBER, word_of
from sharefold.textchecks import check_measures, check_text, read_through
from sharefold.texterrors import NotWritable
from sharefold.typesigns import TypeSigns

MOST_TYPES = 600
MOST_TYPE_HEIGHT = 60


def is_writable(value):
    """Whether any value is a type that has a text."""
    types = 0
    waiting = [(value, 1)]
    while waiting:
        own, height = waiting.pop()
        types += 1
        if types > MOST_TYPES or height > MOST_TYPE_HEIGHT or not isinstance(own, tuple):
            return False
        if len(own) == 3 and own[0] == "to":
            waiting.extend([(part, height + 1) for part in own[1:]])
        elif len(own) != 2 or own[0] != "open" or not is_between(own[1], 0, MOST_NUMBER):
            return False
    return True


def write_type(value):
    """The text of a type."""
    if not is_writable(value):
        raise NotWritable("not a type that has a text")
    return type_text(value)


def type_text(own):
    if own[0] == "open":
        return word_of(own[1])
    one = type_text(own[1])
    if own[1][0] == "to":
        one = "(" + one + ")"
    return one + ">" + type_text(own[2])


def read_type(text):
    """The type of a text."""
    check_text(text)
    reader = TypeSigns()
    read_through(reader, text)
    own, size, height = reader.ended()
    check_measures(size, height, MOST_TYPES, MOST_TYPE_HEIGHT)
    return own
