"""What types are, within whatever bounds, and types of any size, checked for what is too great alone."""

from sharefold.errors import TooMany
from sharefold.integers import is_between

MOST_SIZE = 300
MOST_TYPE_HEIGHT = 60


def is_type_within(value, most, levels, greatest):
    """Whether any value is a type of at most so many types, so many in one another, with numbers to the greatest."""
    many = 0
    waiting = [(value, 1)]
    while waiting:
        own, level = waiting.pop()
        many += 1
        if many > most or level > levels or not isinstance(own, tuple):
            return False
        if len(own) == 3 and own[0] == "to":
            waiting.extend([(part, level + 1) for part in own[1:]])
        elif len(own) != 2 or own[0] != "open" or not is_between(own[1], 0, greatest):
            return False
    return True


def measured_filled(own, measures):
    """The pair of size and height of a type whose open ones are replaced by types with these."""
    if own[0] == "open":
        return measures[own[1]] if own[1] < len(measures) else (1, 0)
    return joined_measures(measured_filled(own[1], measures), measured_filled(own[2], measures))


def joined_measures(one, other):
    """The pair of size and height of a type "to" of two types with these."""
    return one[0] + other[0] + 1, max(one[1], other[1]) + 1


def check_measures(measures):
    """Refuse types of these sizes and heights, if one of them is too great."""
    if any([size > MOST_SIZE for size, _ in measures]):
        raise TooMany(MOST_SIZE)
    if any([height > MOST_TYPE_HEIGHT for _, height in measures]):
        raise TooMany(MOST_TYPE_HEIGHT)


def with_fillings(own, fillings):
    """A type with its open ones replaced."""
    if own[0] == "open":
        return fillings[own[1]] if own[1] < len(fillings) else own
    return "to", with_fillings(own[1], fillings), with_fillings(own[2], fillings)


def opens_in(own):
    """The list of the numbers of the open ones of a type, as often as they stand, in order."""
    opens = []
    waiting = [own]
    while waiting:
        part = waiting.pop()
        if part[0] == "open":
            opens.append(part[1])
        else:
            waiting.extend([part[2], part[1]])
    return opens
