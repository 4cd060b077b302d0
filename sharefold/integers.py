"""Integers among any values."""

from sharefold.errors import InvalidNumber


def is_integer(value):
    return isinstance(value, int) and not isinstance(value, bool)


def is_between(value, least, greatest):
    """Whether a value is an integer from the least to the greatest one."""
    return is_integer(value) and least <= value <= greatest


def check_number(value, least, greatest):
    if not is_between(value, least, greatest):
        raise InvalidNumber(f"not an integer from {least} to {greatest}")
