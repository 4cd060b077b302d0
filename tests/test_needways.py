"""Runs by schedules, and papers of answers: [42] and [87], and what [3] promises of them."""

import random
import unittest

from sharefold.cores import core_of
from sharefold.errors import InvalidHand, InvalidNumber, InvalidProgram, InvalidSchedule
from sharefold.needruns import NeedRun
from sharefold.needways import answer_by_rounds, answer_paper, run_by, takes_answer
from sharefold.programs import is_program
from tests.program_samples import ANY, ENDLESS, IP, LOOP, N, X, Y, calls, case, fun, great_number, make
from tests.program_samples import random_programs, word
from tests.samples import ODD_VALUES, limit_of
from tests.test_cores import spread
from tests.test_needruns import lets, told

M = make("M")
FOUR = make("T", N, N, N, N)
GREAT = fun(*["y"] * 12, case(Y, (make("T", FOUR, FOUR, FOUR, FOUR), N), (ANY, spread(13))))


def right_programs(seed, many, size):
    return [own for own in random_programs(seed, many, size) if is_program(own) and limit_of(core_of, own) is None]


def countdown(many, ends):
    """A program that takes many steps: a number is counted down; it ends in what is told."""
    down = fun("a", case(word("a"), (N, ends), (make("S", word("b")), calls(word("g"), word("b")))))
    return great_number(many, ("let", "g", down, calls(word("g"), word("n"))))


class RunByTest(unittest.TestCase):

    def test_hands_in_turn(self):
        dice = random.Random(411)
        for program in right_programs(411, 150, 30):
            hands = dice.randrange(1, 5)
            schedule = tuple([dice.randrange(hands) for _ in range(dice.randrange(60))])
            run = NeedRun(program, hands)
            for hand in schedule:
                run.step(hand)
            found = run_by(program, hands, schedule)
            self.assertIsInstance(found, NeedRun)
            self.assertEqual(told(found), told(run))
        run = run_by(IP, 2, (1, 1, 0, 1))
        self.assertEqual(run.counts()[0], 1)
        self.assertIsNot(run_by(IP, 2, ()), run_by(IP, 2, ()))

    def test_schedules_of_2000_and_of_more(self):
        for many in [1999, 2000]:
            self.assertEqual(run_by(IP, 1, (0,) * many).state(), "over")
        self.assertRaises(InvalidSchedule, run_by, IP, 1, (0,) * 2001)
        self.assertIs(takes_answer(IP, 1, ((0,) * 2000, N)), True)
        self.assertIs(takes_answer(IP, 1, ((0,) * 2001, N)), False)

    def test_steps_that_are_too_many(self):
        self.assertEqual(limit_of(run_by, ENDLESS, 1, (0,) * 2000), 200)
        deep = ("let", "f", fun("x", calls(word("f"), X, X)), calls(word("f"), N))
        self.assertEqual(limit_of(run_by, deep, 1, (0,) * 2000), 400)


class RoundsTest(unittest.TestCase):

    def test_the_same_by_whatever_hands(self):
        dice = random.Random(412)
        over = 0
        for program in right_programs(412, 400, 30):
            rows = [answer_by_rounds(program, hands) for hands in range(1, 5) if limit_of(answer_by_rounds, program, hands) is None]
            if not rows or rows[0][0] != "over":
                continue
            self.assertEqual(rows, rows[:1] * 4)
            for _ in range(3):
                hands = dice.randrange(1, 5)
                run = NeedRun(program, hands)
                while run.state() == "on":
                    run.step(dice.randrange(hands))
                self.assertEqual((run.state(), run.answer(), run.counts()), rows[0])
            over += 1
        self.assertGreater(over, 200)

    def test_one_by_one(self):
        self.assertEqual(answer_by_rounds(IP, 1), ("over", N, (11, 2, 2, 1)))
        self.assertEqual(answer_by_rounds(LOOP, 3), ("still", ("later",), (2, 1, 0, 0)))
        self.assertEqual(answer_by_rounds(make("P", N, LOOP), 1)[:2], ("still", make("P", N, ("later",))))
        self.assertEqual(answer_by_rounds(fun("x", X), 4), ("over", ("fun",), (1, 0, 0, 1)))
        self.assertEqual(answer_by_rounds(calls(N, N), 1)[:2], ("over", ("failed",)))

    def test_beyond_5000_steps(self):
        loop = ("let", "f", fun("x", calls(word("f"), X)), calls(word("f"), N))
        for hands in [1, 4]:
            self.assertEqual(limit_of(answer_by_rounds, loop, hands), 5000)
        self.assertEqual(limit_of(answer_by_rounds, ENDLESS, 1), 200)
        # Many steps, but not too many.
        many = answer_by_rounds(countdown(150, N), 2)
        self.assertEqual(many[:2], ("over", N))
        self.assertGreater(many[2][0], 2000)


class PaperTest(unittest.TestCase):

    def test_one_hand(self):
        papers = 0
        for program in right_programs(413, 300, 30):
            if limit_of(answer_paper, program) is not None:
                continue
            paper = answer_paper(program)
            state, answer, counts = answer_by_rounds(program, 1)
            if state == "still":
                self.assertIsNone(paper)
                continue
            schedule, found = paper
            self.assertEqual(found, answer)
            self.assertEqual(set(schedule) - {0}, set())
            for hands in range(1, 5):
                self.assertIs(takes_answer(program, hands, paper), True)
            self.assertIs(takes_answer(program, 1, (schedule[1:], found)), len(schedule) > counts[0])
            self.assertIs(takes_answer(program, 1, (schedule + (0,), found)), True)
            papers += 1
        self.assertGreater(papers, 100)

    def test_2000_steps_and_more(self):
        seen = set()
        for many in range(50, 130, 3):
            program = countdown(many, N)
            steps = answer_by_rounds(program, 1)[2][0]
            self.assertEqual(limit_of(answer_paper, program), None if steps <= 2000 else 2000)
            # What comes to be still takes as many steps.
            stuck = countdown(many, LOOP)
            steps = answer_by_rounds(stuck, 1)[2][0]
            limit = limit_of(answer_paper, stuck)
            self.assertEqual(limit, None if steps <= 2000 else 2000)
            if limit is None:
                self.assertIsNone(answer_paper(stuck))
            seen.add(limit)
        self.assertEqual(seen, {None, 2000})

    def test_just_2000_steps_and_2001(self):
        # Each of these around a program makes one step more: a let of a word that is not met.
        for many in range(60, 140):
            base = countdown(many, N)
            steps = answer_by_rounds(base, 1)[2][0]
            if 1984 < steps <= 2000:
                for more in range(2000 - steps, 2002 - steps):
                    program = lets(["x"] * more, base)
                    if is_program(program):
                        self.assertEqual(answer_by_rounds(program, 1)[2][0], steps + more)
                        self.assertEqual(limit_of(answer_paper, program), None if steps + more <= 2000 else 2000)
                        if steps + more == 2000:
                            self.assertEqual(len(answer_paper(program)[0]), 2000)
                            self.assertIs(takes_answer(program, 3, answer_paper(program)), True)
                return
        self.fail("no such program")

    def test_other_limits(self):
        self.assertEqual(limit_of(answer_paper, ENDLESS), 200)
        deep = ("let", "f", fun("x", calls(word("f"), X, X)), calls(word("f"), N))
        self.assertEqual(limit_of(answer_paper, deep), 400)
        loop = ("let", "f", fun("x", calls(word("f"), X)), calls(word("f"), N))
        self.assertEqual(limit_of(answer_paper, loop), 2000)


class TakesTest(unittest.TestCase):

    def test_papers_spoilt_at_each_place(self):
        program = make("P", IP, fun("x", X))
        schedule, answer = answer_paper(program)
        self.assertEqual(answer, make("P", N, ("fun",)))
        for spoilt in [make("P", ("fun",), N), make("P", N, N), make("P", N, ("later",)), make("P", N, ("failed",)), ("later",), N,
                       ("make", "P", [N, ("fun",)]), ("make", "P", (N,)), ("make", "Q", answer[2]), list(answer), answer[:2],
                       answer + (), ("make", "P", (N, ["fun"])), ("make", "P", (N, "fun")), None, 0, (), schedule]:
            self.assertIs(takes_answer(program, 1, (schedule, spoilt)), spoilt == answer)
        for spoilt in [schedule[1:], list(schedule), (), (1,) + schedule[1:], (True,) + schedule, (False,) + schedule[1:],
                       (0.0,) + schedule[1:], ("0",) + schedule, (-1,) + schedule, None, 0, "0" * 20]:
            self.assertIs(takes_answer(program, 1, (spoilt, answer)), False)
        self.assertIs(takes_answer(program, 2, ((1,) + schedule, answer)), True)
        for value in [schedule, (schedule,), (schedule, answer, ()), [schedule, answer], (answer, schedule), None] + ODD_VALUES:
            self.assertIs(takes_answer(program, 1, value), False)

    def test_runs_that_are_not_over(self):
        self.assertIs(takes_answer(LOOP, 1, ((0,) * 9, ("later",))), False)
        # The answer is whole, but there is a step.
        program = ("let", "x", N, ("par", "x", M))
        self.assertIs(takes_answer(program, 1, ((0, 0, 0), M)), False)
        self.assertIs(takes_answer(program, 1, ((0,) * 7, M)), True)
        self.assertIs(takes_answer(program, 1, ((0,) * 6, M)), False)
        self.assertIs(takes_answer(program, 2, ((0, 0, 0, 1, 1, 1, 1), M)), True)
        self.assertIs(takes_answer(("let", "x", X, ("par", "x", M)), 1, ((0,) * 9, M)), False)

    def test_without_too_many(self):
        self.assertIs(takes_answer(ENDLESS, 1, ((0,) * 2000, ("later",))), False)
        self.assertIs(takes_answer(GREAT, 1, ((0,), ("fun",))), False)
        self.assertIs(takes_answer(GREAT[2], 1, ((0,), ("fun",))), True)


class WrongArgumentsTest(unittest.TestCase):

    def test_from_left_to_right(self):
        for value in ODD_VALUES + [X, list(IP)]:
            self.assertRaises(InvalidProgram, run_by, value, None, None)
            self.assertRaises(InvalidProgram, answer_by_rounds, value, None)
            self.assertRaises(InvalidProgram, answer_paper, value)
            self.assertRaises(InvalidProgram, takes_answer, value, None, None)
        for value in [None, True, False, 0, 5, -1, 10 ** 100, "1", (1,), [1]]:
            self.assertRaises(InvalidNumber, run_by, GREAT, value, None)
            self.assertRaises(InvalidNumber, answer_by_rounds, GREAT, value)
            self.assertRaises(InvalidNumber, takes_answer, GREAT, value, None)
        for value in ODD_VALUES + [[0], (2,), (-1,), (True,), (0, False), (0, None), ("0",), ((0,),), (0,) * 2001, 0]:
            if value not in ((), (0,)):
                self.assertRaises(InvalidSchedule, run_by, GREAT, 2, value)
        for hands in range(1, 5):
            self.assertRaises(InvalidSchedule, run_by, IP, hands, (hands,))
            self.assertEqual(run_by(IP, hands, (hands - 1,)).counts()[0], int(hands == 1))

    def test_cores_that_are_too_great(self):
        self.assertEqual(limit_of(run_by, GREAT, 1, ()), 600)
        self.assertEqual(limit_of(answer_by_rounds, GREAT, 1), 600)
        self.assertEqual(limit_of(answer_paper, GREAT), 600)
        self.assertRaises(InvalidHand, run_by(IP, 1, ()).step, 1)


if __name__ == "__main__":
    unittest.main()
