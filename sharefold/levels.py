"""The levels of contexts put in, taken out and changed, without any checks."""


def level_of(context, index):
    return context[index] if index < len(context) else ()


def with_levels(context, index, many, levels):
    """The context with these levels in the place of so many ones, from an index on."""
    row = context + ((),) * (index + many - len(context))
    return trimmed(row[:index] + levels + row[index + many:])


def trimmed(levels):
    """Levels but for the empty ones at the end."""
    end = len(levels)
    while end > 0 and levels[end - 1] == ():
        end -= 1
    return levels[:end]


def with_mark(context, index, mark):
    """The context with a mark put ahead of a level."""
    return with_levels(context, index, 1, ((mark, level_of(context, index)),))


def without_mark(context, index):
    """The mark that is taken off a level, and the context then; None if it has no mark."""
    level = level_of(context, index)
    if len(level) != 2:
        return None
    return level[0], with_levels(context, index, 1, (level[1],))


def with_empty(context, index):
    """The context with an empty level put in."""
    return with_levels(context, index, 0, ((),))


def without_empty(context, index):
    """The context with an empty level taken out; None if the level is not empty."""
    if level_of(context, index) != ():
        return None
    return with_levels(context, index, 1, ())


def with_pair(context, index):
    """The context with a level and the next one made one."""
    one, other = level_of(context, index), level_of(context, index + 1)
    level = () if one == () and other == () else ("pair", one, other)
    return with_levels(context, index, 2, (level,))


def without_pair(context, index):
    """The context with the pair that is a level made two; None if the level is no pair."""
    level = level_of(context, index)
    if level == ():
        return with_levels(context, index, 1, ((), ()))
    if len(level) != 3:
        return None
    return with_levels(context, index, 1, level[1:])


def is_same_level(one, other):
    """Whether two levels are the same; they may be nested deeper than Python's own comparison goes."""
    waiting = [(one, other)]
    while waiting:
        own, part = waiting.pop()
        if len(own) != len(part):
            return False
        if len(own) == 2:
            if own[0] != part[0]:
                return False
            waiting.append((own[1], part[1]))
        elif len(own) == 3:
            waiting.append((own[1], part[1]))
            waiting.append((own[2], part[2]))
    return True


def is_same_below(one, other, index):
    """Whether the levels below an index are the same in two contexts."""
    return all([is_same_level(level_of(one, own), level_of(other, own)) for own in range(index)])
