"""Programs."""

from sharefold.errors import InvalidProgram
from sharefold.programshapes import Survey


def is_program(value):
    """Whether any value is a program."""
    return Survey().is_program(value)


def checked_kinds(value):
    """Refuse what is no program; return the kinds of a program, with the number of parts of each."""
    survey = Survey()
    if not survey.is_program(value):
        raise InvalidProgram("not a program")
    return survey.kinds


def program_kinds(program):
    """The ascending tuple of the pairs of a kind of a program, and of its number of parts."""
    return tuple(sorted(checked_kinds(program).items()))
