"""The cores of programs."""

from sharefold.errors import TooMany
from sharefold.patterntrees import tree_for
from sharefold.programs import checked_kinds

MOST_CORES = 600


class CoreBuilder:
    """Builds the core of a program, and counts its words and its nodes."""

    def __init__(self):
        self.words = 0
        self.many = 0

    def _word(self):
        self.words += 1
        return self.words - 1

    def _made(self, core):
        self.many += 1
        if self.many > MOST_CORES:
            raise TooMany(MOST_CORES)
        return core

    def core(self, own, bound):
        """The core of an expression, in which words stand for these numbers."""
        if own[0] == "word":
            return self._made(("word", bound[own[1]]))
        if own[0] == "fun":
            word = self._word()
            return self._made(("fun", word, self.core(own[2], {**bound, own[1]: word})))
        if own[0] == "let":
            word = self._word()
            inner = {**bound, own[1]: word}
            return self._made(("let", word, self.core(own[2], inner), self.core(own[3], inner)))
        if own[0] == "par":
            return self._made(("par", bound[own[1]], self.core(own[2], bound)))
        if own[0] == "call":
            told = self._told(own[2], bound)
            return self._within([told], ("call", self.core(own[1], bound), told[0]))
        if own[0] == "case":
            told = self._told(own[1], bound)
            tree = tree_for([pattern for pattern, _ in own[2]])
            return self._let([told], self._tree(tree, {0: told[0]}, own[2], bound))
        tolds = [self._told(part, bound) for part in own[2]]
        return self._within(tolds, ("make", own[1], tuple([word for word, _ in tolds])))

    def _told(self, own, bound):
        """The word by which an expression is told, and its core, None if it is a word itself."""
        if own[0] == "word":
            return bound[own[1]], None
        word = self._word()
        return word, self.core(own, bound)

    def _within(self, tolds, core):
        return self._let(tolds, self._made(core))

    def _let(self, tolds, core):
        """A core within the lets of what is told, the first one outermost."""
        for word, own in tolds[::-1]:
            if own is not None:
                core = self._made(("let", word, own, core))
        return core

    def _tree(self, tree, words, rows, bound):
        """The core of a tree, where its parts are told by words."""
        if tree[0] == "none":
            return self._made(tree)
        if tree[0] == "leaf":
            _, row, pairs = tree
            inner = dict(bound)
            for word, part in pairs:
                inner[word] = words[part]
            return self.core(rows[row][1], inner)
        _, part, kind, numbers, yes, no = tree
        inner = dict(words)
        for number in numbers:
            inner[number] = self._word()
        yes = self._tree(yes, inner, rows, bound)
        no = self._tree(no, words, rows, bound)
        return self._made(("test", words[part], kind, tuple([inner[number] for number in numbers]), yes, no))


def built_core(program):
    """The core of what is a program."""
    return CoreBuilder().core(program, {})


def core_of(program):
    """The core of a program."""
    checked_kinds(program)
    return built_core(program)
