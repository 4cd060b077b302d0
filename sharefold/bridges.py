"""The terms of programs, and what normal terms tell."""

from sharefold.coreterms import core_term
from sharefold.cores import built_core
from sharefold.integers import check_number
from sharefold.programs import checked_kinds
from sharefold.terms import check_term
from sharefold.termshapes import parts_of, redexes_in
from sharefold.ways import MOST_STEPS, normal_form


def term_of(program):
    """The term of a program."""
    kinds = checked_kinds(program)
    return core_term(built_core(program), kinds)


def stands_in(term, many):
    """Whether one of the names of so many functions around a term stands in it."""
    waiting = [(term, 0)]
    while waiting:
        part, inner = waiting.pop()
        if part[0] == "name" and inner <= part[1] < inner + many:
            return True
        if part[0] == "fun":
            waiting.append((part[1], inner + 1))
        elif part[0] == "call":
            waiting.extend([(part[1], inner), (part[2], inner)])
    return False


def told_answer(term, kinds):
    """What a normal term tells, by the kinds, ascending, with the number of parts of each."""
    body = term
    many = 0
    while many < len(kinds) and body[0] == "fun":
        body = body[1]
        many += 1
    arguments = []
    while body[0] == "call":
        arguments.append(body[2])
        body = body[1]
    if many < len(kinds) or body[0] != "name" or body[1] >= many:
        return ("other",)
    kind, count = kinds[many - 1 - body[1]]
    if len(arguments) != count:
        return ("other",)
    return "make", kind, tuple([told_argument(own, kinds) for own in arguments[::-1]])


def told_argument(term, kinds):
    """What an argument within the functions for the kinds tells."""
    return ("other",) if stands_in(term, len(kinds)) else told_answer(term, kinds)


def told_by(program, term):
    """What a term tells by the kinds of a program, or None if it is not normal."""
    kinds = sorted(checked_kinds(program).items())
    check_term(term)
    return None if redexes_in(parts_of(term)) else told_answer(term, kinds)


def answer_by_term(program, most):
    """What the normal form of the term of a program tells, or None if so many steps do not lead to one."""
    kinds = checked_kinds(program)
    check_number(most, 0, MOST_STEPS)
    normal = normal_form(core_term(built_core(program), kinds), most)
    return None if normal is None else told_answer(normal, sorted(kinds.items()))
