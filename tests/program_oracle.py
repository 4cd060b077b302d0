"""Trees of tests, cores, runs and terms of programs, told straight from their definitions."""


def slow_fits(pattern, value):
    """The pairs of the words of a pattern that a value fits, or None."""
    if pattern == ("any",):
        return []
    if pattern[0] == "word":
        return [(pattern[1], value)]
    if pattern[1] != value[1]:
        return None
    pairs = [slow_fits(*both) for both in zip(pattern[2], value[2])]
    return None if None in pairs else [pair for own in pairs for pair in own]


def slow_tree(patterns):
    """The tree of tests of patterns."""
    return tree_at([(row, pattern) for row, pattern in enumerate(patterns)], (), 1)


def tree_at(rows, facts, number):
    """The tree of the rows that are left; a fact is (part, kind, parts) or (part, kind, None) for not this kind."""
    if not rows:
        return ("none",)
    row, pattern = rows[0]
    told = through(pattern, 0, facts)
    if told == "lost":
        return tree_at(rows[1:], facts, number)
    if isinstance(told, list):
        return "leaf", row, tuple(told)
    part, kind, many = told
    new = tuple([number + at for at in range(many)])
    return ("test", part, kind, new, tree_at(rows, facts + ((part, kind, new),), number + many),
            tree_at(rows, facts + ((part, kind, None),), number))


def through(pattern, part, facts):
    """The pairs of a pattern's words and parts, "lost", or what is to be tested."""
    if pattern[0] == "any":
        return []
    if pattern[0] == "word":
        return [(pattern[1], part)]
    for own, kind, parts in facts:
        if own == part and parts is None and kind == pattern[1]:
            return "lost"
        if own == part and parts is not None and kind != pattern[1]:
            return "lost"
        if own == part and parts is not None:
            pairs = []
            for inner, number in zip(pattern[2], parts):
                told = through(inner, number, facts)
                if not isinstance(told, list):
                    return told
                pairs += told
            return pairs
    return part, pattern[1], len(pattern[2])


def tree_size(tree):
    return 1 + (tree_size(tree[4]) + tree_size(tree[5]) if tree[0] == "test" else 0)


def slow_core(program):
    """The core of a program."""
    count = [0]

    def new():
        count[0] += 1
        return count[0] - 1

    def of(own, names):
        if own[0] == "word":
            return "word", names[own[1]]
        if own[0] == "fun":
            word = new()
            return "fun", word, of(own[2], dict(names, **{own[1]: word}))
        if own[0] == "let":
            word = new()
            names = dict(names, **{own[1]: word})
            first = of(own[2], names)
            return "let", word, first, of(own[3], names)
        if own[0] == "par":
            return "par", names[own[1]], of(own[2], names)
        lets = []

        def told(part):
            if part[0] == "word":
                return names[part[1]]
            word = new()
            lets.append((word, of(part, names)))
            return word

        if own[0] == "call":
            word = told(own[2])
            core = ("call", of(own[1], names), word)
        elif own[0] == "make":
            core = ("make", own[1], tuple([told(part) for part in own[2]]))
        else:
            word = told(own[1])
            core = tree_core(slow_tree([pattern for pattern, _ in own[2]]), {0: word}, own[2], names)
        for word, first in reversed(lets):
            core = ("let", word, first, core)
        return core

    def tree_core(tree, words, rows, names):
        if tree[0] == "none":
            return tree
        if tree[0] == "leaf":
            return of(rows[tree[1]][1], dict(names, **{name: words[part] for name, part in tree[2]}))
        _, part, kind, parts, yes, no = tree
        own = {number: new() for number in parts}
        yes = tree_core(yes, {**words, **own}, rows, names)
        return "test", words[part], kind, tuple(own.values()), yes, tree_core(no, words, rows, names)

    return of(program, {})


def core_size(core):
    return 1 + sum(core_size(part) for part in core if isinstance(part, tuple) and part and isinstance(part[0], str)
                   and part[0] in ("word", "fun", "call", "let", "make", "test", "none", "par"))


def put(core, word, cell):
    """A core with a cell put for a word; cells are told by pairs ("cell", number)."""
    def own(told):
        return cell if told == word else told

    if core[0] == "word":
        return "word", own(core[1])
    if core[0] == "fun":
        return "fun", core[1], put(core[2], word, cell)
    if core[0] == "call":
        return "call", put(core[1], word, cell), own(core[2])
    if core[0] == "let":
        return "let", core[1], put(core[2], word, cell), put(core[3], word, cell)
    if core[0] == "make":
        return "make", core[1], tuple([own(part) for part in core[2]])
    if core[0] == "test":
        return "test", own(core[1]), core[2], core[3], put(core[4], word, cell), put(core[5], word, cell)
    if core[0] == "par":
        return "par", own(core[1]), put(core[2], word, cell)
    return core


def cells_within(told):
    if isinstance(told, tuple) and len(told) == 2 and told[0] == "cell":
        return {told[1]}
    return set().union(*[cells_within(part) for part in told]) if isinstance(told, tuple) else set()


class SlowRun:
    """A run by need, with cells put into cores. Controls are None, or pairs of a sort and of what it is."""

    def __init__(self, core, hands):
        self.cells = []
        self.line = []
        self.controls = [self.come(core)] + [None] * (hands - 1)
        self.piles = [[] for _ in range(hands)]
        self.wait = []
        self.at = ()
        self.shown = {}
        self.done = 0
        self.updates = 0

    def come(self, core):
        if core[0] in ("fun", "make"):
            return "value", core
        return ("failed", None) if core[0] == "none" else ("work", core)

    def has_step(self, hand):
        control = self.controls[hand]
        if control is None:
            return bool(self.line)
        return control[0] != "work" or control[1][0] != "word" or self.cells[control[1][1][1]] != "black"

    def step(self, hand):
        if not self.has_step(hand):
            return False
        self.done += 1
        control = self.controls[hand]
        pile = self.piles[hand]
        if control is None:
            self.controls[hand] = ("work", ("word", self.line.pop(0)))
        elif control[0] == "work":
            self.controls[hand] = self.work(control[1], pile)
        elif pile:
            self.controls[hand] = self.frame(control, pile.pop())
        else:
            self.controls[hand] = self.end(control) if hand == 0 and self.at is not None else None
        return True

    def work(self, core, pile):
        if core[0] == "word":
            cell = core[1][1]
            state = self.cells[cell]
            if state[0] != "waiting":
                return state
            self.cells[cell] = "black"
            pile.append(("update", cell))
            return self.come(state[1])
        if core[0] == "call":
            pile.append(("argument", core[2]))
            return self.come(core[1])
        if core[0] == "let":
            cell = ("cell", len(self.cells))
            self.cells.append(("waiting", put(core[2], core[1], cell)))
            return self.come(put(core[3], core[1], cell))
        if core[0] == "test":
            pile.append(("test",) + core[2:])
            return "work", ("word", core[1])
        self.line.append(core[1])
        return self.come(core[2])

    def frame(self, control, frame):
        if frame[0] == "update":
            self.updates += 1
            self.cells[frame[1]] = control
            return control
        if control[0] == "failed" or (control[1][0] == "fun") != (frame[0] == "argument"):
            return "failed", None
        if frame[0] == "argument":
            return self.come(put(control[1][2], control[1][1], frame[1]))
        _, kind, words, yes, no = frame
        if control[1][1] != kind:
            return self.come(no)
        for word, cell in zip(words, control[1][2]):
            yes = put(yes, word, cell)
        return self.come(yes)

    def end(self, control):
        self.shown[self.at] = control
        if control[0] == "value" and control[1][0] == "make":
            parts = [(self.at + (place,), cell) for place, cell in enumerate(control[1][2])]
            self.wait = parts + self.wait
        if not self.wait:
            self.at = None
            return None
        self.at, cell = self.wait.pop(0)
        return "work", ("word", cell)

    def answer(self, path=()):
        if path not in self.shown:
            return ("later",)
        sort, core = self.shown[path]
        if sort == "failed" or core[0] == "fun":
            return ("failed",) if sort == "failed" else ("fun",)
        return "make", core[1], tuple([self.answer(path + (place,)) for place in range(len(core[2]))])

    def state(self):
        if any(self.has_step(hand) for hand in range(len(self.controls))):
            return "on"
        return "over" if self.at is None and self.controls == [None] * len(self.controls) else "still"

    def counts(self):
        return self.done, len(self.cells), self.updates, len(self.shown)

    def cell_states(self):
        return tuple([cell if cell == "black" else cell[0] for cell in self.cells])

    def hand_states(self):
        return tuple([("idle" if own is None else own[0], len(pile)) for own, pile in zip(self.controls, self.piles)])

    def reached(self):
        roots = [self.line, [cell for _, cell in self.wait], self.controls]
        roots += [[frame for frame in pile if frame[0] != "update"] for pile in self.piles]
        waiting = list(cells_within(tuple([tuple(row) for row in roots])))
        found = set()
        while waiting:
            cell = waiting.pop()
            if cell not in found:
                found.add(cell)
                waiting += list(cells_within(self.cells[cell]))
        return tuple(sorted(found))


def named_term(core, kinds):
    """The term of a core with words for names: ("name", word), ("fun", word, body), ("call", one, other)."""
    def calls(function, *arguments):
        for own in arguments:
            function = ("call", function, own)
        return function

    def funs(words, body):
        for word in words[::-1]:
            body = ("fun", word, body)
        return body

    def name(word):
        return "name", word

    def stands(word, own):
        return own == word and not isinstance(own, bool) if isinstance(own, int) else any(
            stands(word, part) for part in own) if isinstance(own, tuple) else False

    def of(own):
        if own[0] == "word":
            return name(own[1])
        if own[0] == "fun":
            return "fun", own[1], of(own[2])
        if own[0] == "call":
            return "call", of(own[1]), name(own[2])
        if own[0] == "let":
            inner = of(own[2])
            if stands(own[1], own[2]):
                half = ("fun", "x", calls(name("f"), calls(name("x"), name("x"))))
                inner = calls(("fun", "f", calls(half, half)), ("fun", own[1], inner))
            return "call", ("fun", own[1], of(own[3])), inner
        if own[0] == "make":
            return funs(["k" + kind for kind, _ in kinds], calls(name("k" + own[1]), *[name(word) for word in own[2]]))
        if own[0] == "test":
            rows = []
            for kind, many in kinds:
                if kind == own[2]:
                    rows.append(funs(list(own[3]), of(own[4])))
                else:
                    rows.append(funs(["d"] * many, name(("no", own[1], own[2], own[3]))))
            return "call", ("fun", ("no", own[1], own[2], own[3]), calls(name(own[1]), *rows)), of(own[5])
        return of(own[2]) if own[0] == "par" else ("letter", "Z")

    return of(core)


def unnamed(told, around=()):
    if told[0] == "name":
        return "name", around[::-1].index(told[1])
    if told[0] == "fun":
        return "fun", unnamed(told[2], around + (told[1],))
    return told if told[0] == "letter" else ("call", unnamed(told[1], around), unnamed(told[2], around))


def slow_term(core, kinds):
    return unnamed(named_term(core, kinds))
