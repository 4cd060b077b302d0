"""Any values held against what they should be."""

from sharefold.integers import is_integer


def is_same(value, told):
    """Whether any value is what is told: tuples, integers and strings, True and False being no integers."""
    waiting = [(value, told)]
    while waiting:
        one, other = waiting.pop()
        if isinstance(other, tuple):
            if not isinstance(one, tuple) or len(one) != len(other):
                return False
            waiting.extend([(own, part) for own, part in zip(one, other)])
        elif is_integer(one) != is_integer(other) or one != other:
            return False
    return True
