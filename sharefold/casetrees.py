"""Which of several patterns a value fits, row by row and by trees of tests."""

from sharefold.errors import InvalidPatterns, InvalidValue
from sharefold.patterntrees import tree_for
from sharefold.programshapes import Survey


def check_patterns(value):
    """Refuse a value that is no tuple of patterns; return what was found in it."""
    survey = Survey()
    if not survey.are_patterns(value):
        raise InvalidPatterns("not a tuple of patterns")
    return survey


def check_both(patterns, value):
    """Refuse what are no patterns, then what is no value that goes with them."""
    if not check_patterns(patterns).is_value(value):
        raise InvalidValue("not a value of kinds that goes with the patterns")


def tree_of(patterns):
    """The tree of tests of patterns."""
    check_patterns(patterns)
    return tree_for(patterns)


def fitted(pattern, value):
    """The pairs of the words of a pattern, and of what they stand for, or None if a value does not fit."""
    pairs = []
    waiting = [(pattern, value)]
    while waiting:
        own, told = waiting.pop()
        if own[0] == "word":
            pairs.append((own[1], told))
        elif own[0] == "make":
            if own[1] != told[1]:
                return None
            waiting.extend(list(zip(own[2], told[2]))[::-1])
    return tuple(pairs)


def row_by_rows(patterns, value):
    """The first row whose pattern fits, with the pairs of its words, and of what they stand for, or None."""
    check_both(patterns, value)
    for row, pattern in enumerate(patterns):
        pairs = fitted(pattern, value)
        if pairs is not None:
            return row, pairs
    return None


def tested(tree, value):
    """The end of the way of a value through a tree, its parts by their numbers, and the list of those tested."""
    parts = {0: value}
    tests = []
    while tree[0] == "test":
        _, part, kind, new, yes, no = tree
        tests.append(part)
        if parts[part][1] == kind:
            for number, own in zip(new, parts[part][2]):
                parts[number] = own
            tree = yes
        else:
            tree = no
    return tree, parts, tests


def row_by_tree(patterns, value):
    """The same as by rows, by the tree."""
    check_both(patterns, value)
    tree, parts, _ = tested(tree_for(patterns), value)
    if tree[0] == "none":
        return None
    return tree[1], tuple([(word, parts[part]) for word, part in tree[2]])


def parts_tested(patterns, value):
    """The tuple of the parts of a value that the tree tests, in order."""
    check_both(patterns, value)
    return tuple(tested(tree_for(patterns), value)[2])
