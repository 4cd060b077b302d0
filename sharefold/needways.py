"""Runs by need that are told by schedules, and their answers."""

from sharefold.errors import InvalidSchedule, TooMany
from sharefold.integers import is_between
from sharefold.needruns import MOST_RUN_STEPS, NeedRun, check_hands
from sharefold.programs import checked_kinds
from sharefold.samevalues import is_same

MOST_SCHEDULE = 2000


def is_schedule(value, hands):
    """Whether any value is a tuple of such hands."""
    if not isinstance(value, tuple) or len(value) > MOST_SCHEDULE:
        return False
    return all([is_between(hand, 0, hands - 1) for hand in value])


def run_by(program, hands, schedule):
    """The run in which the hands of a schedule, in turn, did a step each, if they had one."""
    checked_kinds(program)
    check_hands(hands)
    if not is_schedule(schedule, hands):
        raise InvalidSchedule(f"not a tuple of at most {MOST_SCHEDULE} hands")
    run = NeedRun(program, hands)
    for hand in schedule:
        run.step(hand)
    return run


def answer_by_rounds(program, hands):
    """The state, the answer and the counts of the run by rounds behind all its steps."""
    run = NeedRun(program, hands)
    run.rounds(MOST_RUN_STEPS)
    # A further step, if there is one, is one too many.
    run.rounds(1)
    return run.state(), run.answer(), run.counts()


def answer_paper(program):
    """A schedule of the first hand alone whose run is over, and the answer; None if it comes to be still."""
    run = NeedRun(program, 1)
    many = run.rounds(MOST_SCHEDULE)
    if run.has_step(0):
        raise TooMany(MOST_SCHEDULE)
    return ((0,) * many, run.answer()) if run.state() == "over" else None


def takes_answer(program, hands, value):
    """Whether any value is a pair of a schedule by which the run is over, and of the answer."""
    checked_kinds(program)
    check_hands(hands)
    if not isinstance(value, tuple) or len(value) != 2 or not is_schedule(value[0], hands):
        return False
    try:
        run = run_by(program, hands, value[0])
    except TooMany:
        return False
    return run.state() == "over" and is_same(value[1], run.answer())
