"""The trees of tests of patterns, without any checks but for what is too great."""

from sharefold.errors import TooMany

MOST_TREE = 300


class Settled:
    """What is settled of the parts of a value on one way from the root of a tree."""

    def __init__(self, makes, others, many):
        self.makes = makes
        self.others = others
        self.many = many

    def numbers(self, count):
        """The numbers of the next parts, so many."""
        return tuple(range(self.many, self.many + count))

    def as_kind(self, part, kind, count):
        """What is settled where a part is of a kind, with so many parts."""
        makes = {**self.makes, part: (kind, self.numbers(count))}
        return Settled(makes, self.others, self.many + count)

    def as_other(self, part, kind):
        """What is settled where a part is not of a kind."""
        others = {**self.others, part: (*self.others.get(part, ()), kind)}
        return Settled(self.makes, others, self.many)


def gone_through(pattern, settled):
    """What becomes of a row that is gone through.

    This is ("fits", pairs) with the pairs of a word and a part, ("lost",), or ("test", part, kind, count)
    for a part that is to be tested, and how many parts are to come of it.
    """
    pairs = []
    waiting = [(pattern, 0)]
    while waiting:
        own, part = waiting.pop()
        if own[0] == "word":
            pairs.append((own[1], part))
        elif own[0] == "make":
            kind, numbers = settled.makes.get(part, (None, ()))
            if kind is None and own[1] not in settled.others.get(part, ()):
                return "test", part, own[1], len(own[2])
            if kind != own[1]:
                return ("lost",)
            waiting.extend(list(zip(own[2], numbers))[::-1])
    return "fits", tuple(pairs)


class TreeBuilder:
    """Builds the tree of tests of patterns."""

    def __init__(self, patterns):
        self.patterns = patterns
        self.tests = 0

    def build(self, row, settled):
        """The tree from a row on, where something is settled."""
        while row < len(self.patterns):
            told = gone_through(self.patterns[row], settled)
            if told[0] == "fits":
                return "leaf", row, told[1]
            if told[0] == "test":
                _, part, kind, count = told
                self._count()
                yes = self.build(row, settled.as_kind(part, kind, count))
                no = self.build(row, settled.as_other(part, kind))
                return "test", part, kind, settled.numbers(count), yes, no
            row += 1
        return ("none",)

    def _count(self):
        self.tests += 1
        # Each test parts one tree into two, so there is one leaf more than there are tests.
        if 2 * self.tests + 1 > MOST_TREE:
            raise TooMany(MOST_TREE)


def tree_for(patterns):
    """The tree of tests of patterns."""
    return TreeBuilder(patterns).build(0, Settled({}, {}, 1))
