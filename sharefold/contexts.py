"""Contexts, and their levels."""

from sharefold.errors import InvalidContext
from sharefold.integers import check_number, is_between
from sharefold.levels import level_of, with_empty, with_mark, with_pair
from sharefold.levels import without_empty, without_mark, without_pair

MOST_LEVELS = 100
MOST_WITHIN = 41
GREATEST_LEVEL = 40


def is_context(value):
    """Whether any value is a context."""
    if not isinstance(value, tuple) or len(value) > MOST_LEVELS:
        return False
    if len(value) > 0 and value[-1] == ():
        return False
    return all([is_level(level) for level in value])


def is_level(value):
    """Whether any value is a level."""
    waiting = [(value, 1)]
    while waiting:
        level, deep = waiting.pop()
        if deep > MOST_WITHIN or not isinstance(level, tuple):
            return False
        if len(level) == 2 and is_between(level[0], 1, 2):
            waiting.append((level[1], deep + 1))
        elif len(level) == 3 and level[0] == "pair" and level[1:] != ((), ()):
            waiting.append((level[1], deep + 1))
            waiting.append((level[2], deep + 1))
        elif level != ():
            return False
    return True


def check_context(value):
    if not is_context(value):
        raise InvalidContext("not a context")


def check_level(context, index):
    """Refuse what is no context, then what is no index of a level."""
    check_context(context)
    check_number(index, 0, GREATEST_LEVEL)


def level_at(context, index):
    """A level of a context."""
    check_level(context, index)
    return level_of(context, index)


def marked(context, index, mark):
    """The context with a mark put ahead of a level."""
    check_level(context, index)
    check_number(mark, 1, 2)
    return with_mark(context, index, mark)


def unmarked(context, index):
    """The mark that is taken off a level, and the context then, or None."""
    check_level(context, index)
    return without_mark(context, index)


def opened(context, index):
    """The context with an empty level put in."""
    check_level(context, index)
    return with_empty(context, index)


def closed(context, index):
    """The context with an empty level taken out, or None."""
    check_level(context, index)
    return without_empty(context, index)


def paired(context, index):
    """The context with a level and the next one made one."""
    check_level(context, index)
    return with_pair(context, index)


def unpaired(context, index):
    """The context with a pair made two levels, or None."""
    check_level(context, index)
    return without_pair(context, index)
