"""The plain meaning of programs, by name."""

from sharefold.answers import Answers
from sharefold.cores import built_core
from sharefold.coreshapes import CoreTable
from sharefold.integers import check_number
from sharefold.needruns import MOST_RUN_STEPS
from sharefold.programs import checked_kinds

MOST_DEEP = 200


class PlainMeaning:
    """Works out cores by name; what is put for a word is a pair of a core's number, and of what is put in it."""

    def __init__(self, core, most):
        self.table = CoreTable(core)
        self.steps_left = most

    def value_of(self, number, puts):
        """The value of a core, or ("failed",); None if no steps are left for it."""
        pile = []
        while self.steps_left > 0:
            self.steps_left -= 1
            told = self._met(number, puts, pile)
            while told[0] != "core" and pile:
                told = self._framed(told, pile.pop())
            if told[0] != "core":
                return told
            number, puts = told[1:]
        return None

    def _met(self, number, puts, pile):
        """What a core comes to be: another one, or a value."""
        core = self.table.cores[number]
        parts = self.table.parts[number]
        if core[0] == "fun":
            return "fun", number, puts
        if core[0] == "make":
            return "make", core[1], [puts[word] for word in core[2]]
        if core[0] == "none":
            return ("failed",)
        if core[0] == "word":
            return ("core", *puts[core[1]])
        if core[0] == "test":
            pile.append(("test", number, puts))
            return ("core", *puts[core[1]])
        if core[0] == "let":
            inner = dict(puts)
            inner[core[1]] = (parts[0], inner)
            return "core", parts[1], inner
        if core[0] == "call":
            pile.append(("argument", puts[core[2]]))
        return "core", parts[0], puts

    def _framed(self, told, frame):
        """What a value, or what failed, comes to be by what waits for it."""
        if told[0] == "failed":
            return told
        if frame[0] == "argument":
            if told[0] != "fun":
                return ("failed",)
            _, number, puts = told
            return "core", self.table.parts[number][0], {**puts, self.table.cores[number][1]: frame[1]}
        if told[0] == "fun":
            return ("failed",)
        _, number, puts = frame
        if told[1] != self.table.cores[number][2]:
            return "core", self.table.parts[number][1], puts
        inner = dict(puts)
        for word, own in zip(self.table.cores[number][3], told[2]):
            inner[word] = own
        return "core", self.table.parts[number][0], inner


def plain_answer(program, most):
    """The answer of the plain meaning, or None if it takes more than so many steps, or is too deep."""
    checked_kinds(program)
    check_number(most, 0, MOST_RUN_STEPS)
    meaning = PlainMeaning(built_core(program), most)
    answers = Answers()
    waiting = [(0, (0, {}), 1)]
    while waiting:
        place, (number, puts), level = waiting.pop()
        value = meaning.value_of(number, puts)
        if value is None or level > MOST_DEEP:
            return None
        numbers = answers.tell(place, value)
        waiting.extend([(own, value[2][at], level + 1) for at, own in enumerate(numbers)])
    return answers.whole()
