"""Runs of programs by need.

A control is ("idle",), ("meet", cell) where a cell is to be met, ("work", core, cells) with another
core at work, by its number, and the cells of its words, ("fun", core, cells), ("make", kind, cells),
or ("failed",). A cell is ("waiting", core, cells), ("black",), or what the last three controls are.
A frame is ("update", cell), ("argument", cell), or ("test", core, cells).
"""

from sharefold.cores import built_core
from sharefold.coreshapes import CoreTable
from sharefold.errors import InvalidHand, TooMany
from sharefold.integers import check_number, is_between
from sharefold.needshows import Showing
from sharefold.programs import checked_kinds

MOST_HANDS = 4
MOST_RUN_STEPS = 5000
MOST_CELLS = 2000
MOST_FRAMES = 400

# What is said of controls and cells that have a word of their own.
SAID = {"meet": "work", "fun": "value", "make": "value"}


def check_hands(value):
    check_number(value, 1, MOST_HANDS)


def cells_of(own):
    """The list of the cells that a control, a cell or a frame has."""
    if own[0] == "work" or own[0] == "fun" or own[0] == "waiting" or own[0] == "test":
        return list(own[2].values())
    if own[0] == "make":
        return list(own[2])
    return [own[1]] if own[0] == "meet" or own[0] == "argument" else []


class NeedRun:
    """A run of a program by so many hands."""

    def __init__(self, program, hands):
        checked_kinds(program)
        check_hands(hands)
        self.table = CoreTable(built_core(program))
        self.cells = []
        self.line = []
        self.controls = [self._control(0, {})] + [("idle",)] * (hands - 1)
        self.piles = [[] for _ in range(hands)]
        self.showing = Showing()
        self.steps_done = 0
        self.updates = 0

    def has_step(self, hand):
        """Whether a hand has a step."""
        self._check_hand(hand)
        control = self.controls[hand]
        if control[0] == "idle":
            return len(self.line) > 0
        return control[0] != "meet" or self.cells[control[1]][0] != "black"

    def step(self, hand):
        """Do a step of a hand, if it has one; return whether."""
        if not self.has_step(hand):
            return False
        if self.steps_done == MOST_RUN_STEPS:
            raise TooMany(MOST_RUN_STEPS)
        control = self.controls[hand]
        if control[0] == "idle":
            behind = ("meet", self.line.pop(0))
        elif control[0] == "meet":
            behind = self._met(hand, control[1])
        elif control[0] == "work":
            behind = self._worked(hand, control[1], control[2])
        elif self.piles[hand]:
            behind = self._framed(control, self.piles[hand].pop())
        else:
            behind = self._ended(hand, control)
        self.controls[hand] = behind
        self.steps_done += 1
        return True

    def rounds(self, most):
        """Do up to so many steps, hand by hand; return how many."""
        check_number(most, 0, MOST_RUN_STEPS)
        many = 0
        before = -1
        while before < many < most:
            before = many
            for hand in range(len(self.controls)):
                if many < most and self.step(hand):
                    many += 1
        return many

    def state(self):
        """The word "over", "still" or "on"."""
        if any([self.has_step(hand) for hand in range(len(self.controls))]):
            return "on"
        idle = all([control[0] == "idle" for control in self.controls])
        return "over" if idle and self.showing.is_whole() else "still"

    def answer(self):
        """The answer as far as it is shown."""
        return self.showing.answers.whole()

    def counts(self):
        """How many steps were done, cells made, frames "update" went, and parts were shown."""
        return self.steps_done, len(self.cells), self.updates, self.showing.shown

    def cell_states(self):
        """The tuple of the words of all cells, as they were made."""
        return tuple([SAID.get(cell[0], cell[0]) for cell in self.cells])

    def hand_states(self):
        """The tuple of the pairs of a word, and of the number of frames, of all hands."""
        words = [SAID.get(control[0], control[0]) for control in self.controls]
        return tuple([(word, len(pile)) for word, pile in zip(words, self.piles)])

    def reached(self):
        """The ascending tuple of the reached cells."""
        waiting = self.line + [cell for _, cell in self.showing.waiting]
        for own in self.controls:
            waiting.extend(cells_of(own))
        for pile in self.piles:
            for frame in pile:
                waiting.extend(cells_of(frame))
        come = {}
        while waiting:
            cell = waiting.pop()
            if cell not in come:
                come[cell] = True
                waiting.extend(cells_of(self.cells[cell]))
        return tuple(sorted(come))

    def _check_hand(self, hand):
        if not is_between(hand, 0, len(self.controls) - 1):
            raise InvalidHand("not a hand of the run")

    def _control(self, number, cells):
        """The control that a core comes to be, where its words stand for cells."""
        core = self.table.cores[number]
        if core[0] == "word":
            return "meet", cells[core[1]]
        if core[0] == "make":
            return "make", core[1], tuple([cells[word] for word in core[2]])
        if core[0] == "none":
            return ("failed",)
        return "fun" if core[0] == "fun" else "work", number, self._kept(number, cells)

    def _kept(self, number, cells):
        """The cells of those words alone that a core needs."""
        return {word: cells[word] for word in self.table.outer_words[number]}

    def _push(self, hand, frame):
        if len(self.piles[hand]) == MOST_FRAMES:
            raise TooMany(MOST_FRAMES)
        self.piles[hand].append(frame)

    def _met(self, hand, cell):
        state = self.cells[cell]
        if state[0] != "waiting":
            return state
        self._push(hand, ("update", cell))
        self.cells[cell] = ("black",)
        return self._control(state[1], state[2])

    def _worked(self, hand, number, cells):
        core = self.table.cores[number]
        parts = self.table.parts[number]
        if core[0] == "call":
            self._push(hand, ("argument", cells[core[2]]))
            return self._control(parts[0], cells)
        if core[0] == "let":
            if len(self.cells) == MOST_CELLS:
                raise TooMany(MOST_CELLS)
            inner = {**cells, core[1]: len(self.cells)}
            self.cells.append(("waiting", parts[0], self._kept(parts[0], inner)))
            return self._control(parts[1], inner)
        if core[0] == "test":
            kept = {word: cells[word] for word in self.table.inner_words[number]}
            self._push(hand, ("test", number, kept))
            return "meet", cells[core[1]]
        self.line.append(cells[core[1]])
        return self._control(parts[0], cells)

    def _framed(self, control, frame):
        """What a value, or what failed, comes to be where a frame goes."""
        if frame[0] == "update":
            self.cells[frame[1]] = control
            self.updates += 1
            return control
        if control[0] == "failed":
            return control
        if frame[0] == "argument":
            if control[0] != "fun":
                return ("failed",)
            word = self.table.cores[control[1]][1]
            return self._control(self.table.parts[control[1]][0], {**control[2], word: frame[1]})
        if control[0] == "fun":
            return ("failed",)
        core = self.table.cores[frame[1]]
        yes, no = self.table.parts[frame[1]]
        if control[1] != core[2]:
            return self._control(no, frame[2])
        inner = dict(frame[2])
        for word, cell in zip(core[3], control[2]):
            inner[word] = cell
        return self._control(yes, inner)

    def _ended(self, hand, control):
        """What comes to be of a value, or of what failed, without a frame."""
        cell = None
        if hand == 0 and not self.showing.is_whole():
            cell = self.showing.show(control)
        return ("idle",) if cell is None else ("meet", cell)
