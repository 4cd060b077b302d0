"""The terms of cores, without any checks but for what is too great."""

from sharefold.coreshapes import CoreTable
from sharefold.errors import TooMany
from sharefold.termshapes import MOST_HEIGHT, MOST_NODES, measured_height, parts_of

# The term of \f.(\x.f (x x)) (\x.f (x x)).
AGAIN = (
    "fun", (
        "call",
        ("fun", ("call", ("name", 1), ("call", ("name", 0), ("name", 0)))),
        ("fun", ("call", ("name", 1), ("call", ("name", 0), ("name", 0))))))


def funs_around(many, term):
    for _ in range(many):
        term = ("fun", term)
    return term


def applied(term, arguments):
    for argument in arguments:
        term = ("call", term, argument)
    return term


class CoreTerms:
    """The terms of all cores in a core, those of the parts of each one ahead of its own.

    The level of a core, and of the function by which a word is told, is how many functions are
    around it in the whole term.
    """

    def __init__(self, core, kinds):
        self.table = CoreTable(core)
        self.kinds = kinds
        self.names = sorted(kinds)
        self.levels = [0] * len(self.table.cores)
        self.binders = {}
        self.terms = [()] * len(self.table.cores)

    def build(self):
        """The term of the whole core."""
        for number in range(len(self.table.cores)):
            self._level(number)
        for number in range(len(self.table.cores) - 1, -1, -1):
            self.terms[number] = self._term(number)
        return self.terms[0]

    def _is_own(self, number):
        """Whether the word of a let stands in its own core."""
        return self.table.cores[number][1] in self.table.outer_words[self.table.parts[number][0]]

    def _level(self, number):
        """Settle the levels of the parts of a core, and of the functions of the words that it binds."""
        core = self.table.cores[number]
        level = self.levels[number]
        levels = [level]
        if core[0] == "fun":
            self.binders[core[1]] = level
            levels = [level + 1]
        elif core[0] == "let":
            self.binders[core[1]] = level
            levels = [level + 1 if self._is_own(number) else level, level + 1]
        elif core[0] == "test":
            # The function for the no is around the yes, and then those for the parts.
            for place, word in enumerate(core[3]):
                self.binders[word] = level + 1 + place
            levels = [level + 1 + len(core[3]), level]
        for part, own in zip(self.table.parts[number], levels):
            self.levels[part] = own

    def _name(self, word, level):
        return "name", level - 1 - self.binders[word]

    def _term(self, number):
        core = self.table.cores[number]
        level = self.levels[number]
        parts = [self.terms[part] for part in self.table.parts[number]]
        if core[0] == "word":
            return self._name(core[1], level)
        if core[0] == "fun":
            return "fun", parts[0]
        if core[0] == "call":
            return "call", parts[0], self._name(core[2], level)
        if core[0] == "let":
            own = ("call", AGAIN, ("fun", parts[0])) if self._is_own(number) else parts[0]
            return "call", ("fun", parts[1]), own
        if core[0] == "make":
            return self._make(core, level)
        if core[0] == "test":
            return self._test(core, level, parts)
        return parts[0] if core[0] == "par" else ("letter", "Z")

    def _make(self, core, level):
        many = len(self.names)
        kind = ("name", many - 1 - self.names.index(core[1]))
        return funs_around(many, applied(kind, [self._name(word, level + many) for word in core[2]]))

    def _test(self, core, level, parts):
        rows = []
        for kind in self.names:
            many = self.kinds[kind]
            # Behind so many functions is that for the no.
            rows.append(funs_around(many, parts[0] if kind == core[2] else ("name", many)))
        return "call", ("fun", applied(self._name(core[1], level + 1), rows)), parts[1]


def core_term(core, kinds):
    """The term of a core, by the kinds of its program."""
    term = CoreTerms(core, kinds).build()
    if len(parts_of(term)) > MOST_NODES:
        raise TooMany(MOST_NODES)
    if measured_height(term) > MOST_HEIGHT:
        raise TooMany(MOST_HEIGHT)
    return term
