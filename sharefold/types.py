"""Types."""

from sharefold.errors import InvalidFillings, InvalidType, InvalidTyping
from sharefold.typeshapes import MOST_SIZE, MOST_TYPE_HEIGHT, check_measures, is_type_within
from sharefold.typeshapes import measured_filled, opens_in, with_fillings

GREATEST_OPEN = 2000
MOST_TYPES = 600


def is_type(value):
    """Whether any value is a type that can be handed in."""
    # One type alone is 0 high.
    return is_type_within(value, MOST_SIZE, MOST_TYPE_HEIGHT + 1, GREATEST_OPEN)


def are_types(value):
    """Whether any value is a tuple of types, not too many of them."""
    if not isinstance(value, tuple) or len(value) > MOST_TYPES:
        return False
    return all([is_type(own) for own in value])


def check_type(value):
    if not is_type(value):
        raise InvalidType("not a type")


def check_types(value):
    if not are_types(value):
        raise InvalidTyping(f"not a tuple of at most {MOST_TYPES} types")


def check_fillings(value):
    if not are_types(value):
        raise InvalidFillings(f"not a tuple of at most {MOST_TYPES} types")


def type_height(own):
    """The height of a type."""
    check_type(own)
    return measured_filled(own, ())[1]


def opens_of(own):
    """The ascending tuple of the numbers of the open ones of a type."""
    check_type(own)
    return tuple(sorted({number: True for number in opens_in(own)}))


def plain_types(types):
    """The types with other numbers, unlike for unlike ones, so that they are plain."""
    check_types(types)
    numbers = {}
    for own in types:
        for number in opens_in(own):
            numbers.setdefault(number, len(numbers))
    fillings = [("open", numbers.get(number)) for number in range(GREATEST_OPEN + 1)]
    return tuple([with_fillings(own, fillings) for own in types])


def filled(types, fillings):
    """The types with their open ones replaced, all at once."""
    check_types(types)
    check_fillings(fillings)
    measures = [measured_filled(own, ()) for own in fillings]
    check_measures([measured_filled(own, measures) for own in types])
    return tuple([with_fillings(own, fillings) for own in types])
