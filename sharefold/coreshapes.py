"""Cores taken apart, without any checks."""


def below_core(core):
    """The cores directly in a core."""
    if core[0] == "call":
        return core[1:2]
    if core[0] == "fun" or core[0] == "let" or core[0] == "par":
        return core[2:]
    if core[0] == "test":
        return core[4:]
    return ()


def used_words(core):
    """The words that stand in a core itself, not in those in it."""
    if core[0] == "call":
        return core[2:]
    if core[0] == "make":
        return core[2]
    if core[0] == "word" or core[0] == "test" or core[0] == "par":
        return core[1:2]
    return ()


def bound_words(core, which):
    """The words that a core binds in the one directly in it with an index."""
    if core[0] == "fun" or core[0] == "let":
        return core[1:2]
    if core[0] == "test" and which == 0:
        return core[3]
    return ()


class CoreTable:
    """All cores in a core, by their numbers: itself, then those in each of its parts, in order.

    For each one there are the numbers of the cores directly in it, the words that stand in these
    and are bound outside of it, and such words of its own and of these.
    """

    def __init__(self, core):
        self.cores = []
        waiting = [core]
        while waiting:
            own = waiting.pop()
            self.cores.append(own)
            waiting.extend(below_core(own)[::-1])
        self.parts = [()] * len(self.cores)
        self.inner_words = [()] * len(self.cores)
        self.outer_words = [()] * len(self.cores)
        self._settle()

    def _settle(self):
        # Going backwards, the parts of a core are the last ones that are not yet taken.
        waiting = []
        for number in range(len(self.cores) - 1, -1, -1):
            core = self.cores[number]
            parts = [waiting.pop() for _ in below_core(core)]
            waiting.append(number)
            words = {}
            for which, part in enumerate(parts):
                bound = bound_words(core, which)
                for word in self.outer_words[part]:
                    if word not in bound:
                        words[word] = True
            self.parts[number] = tuple(parts)
            self.inner_words[number] = tuple(sorted(words))
            for word in used_words(core):
                words[word] = True
            self.outer_words[number] = tuple(sorted(words))
