"""Runs by need: [41], [42] and [86], and what [3] promises of them."""

import random
import unittest

from sharefold.cores import core_of
from sharefold.errors import InvalidHand, InvalidNumber, InvalidProgram
from sharefold.needruns import NeedRun
from sharefold.programs import is_program
from tests.program_oracle import SlowRun
from tests.program_samples import ANY, ENDLESS, IP, LOOP, N, X, Y, calls, case, fun, make, plus, random_programs, word
from tests.samples import ODD_VALUES, limit_of
from tests.test_cores import spread

M = make("M")


def told(run):
    return run.state(), run.answer(), run.counts(), run.cell_states(), run.hand_states(), run.reached()


def lets(words, body):
    """A body within lets of words that stand for N each."""
    for own in words[::-1]:
        body = ("let", own, N, body)
    return body


def states(program, hands, steps):
    """What the states of the hands are ahead of each step of the first one."""
    run = NeedRun(program, hands)
    rows = [run.hand_states()]
    for _ in range(steps):
        run.step(0)
        rows.append(run.hand_states())
    return rows


class StepsTest(unittest.TestCase):

    def test_as_cells_are_put_into_cores(self):
        dice = random.Random(401)
        ends = {"over": 0, "still": 0, "on": 0}
        for program in random_programs(401, 500, 40):
            if not is_program(program) or limit_of(core_of, program) is not None:
                continue
            hands = dice.randrange(1, 5)
            run, slow = NeedRun(program, hands), SlowRun(core_of(program), hands)
            for _ in range(80):
                hand = dice.randrange(hands)
                self.assertIs(run.has_step(hand), slow.has_step(hand))
                self.assertIs(run.step(hand), slow.step(hand))
                self.assertEqual(told(run), (slow.state(), slow.answer(), slow.counts(), slow.cell_states(),
                                             slow.hand_states(), slow.reached()))
                if run.state() != "on":
                    break
            ends[run.state()] += 1
        self.assertGreater(min(ends.values()), 8)

    def test_rounds_from_hand_to_hand(self):
        dice = random.Random(402)
        for program in random_programs(402, 200, 40):
            if not is_program(program) or limit_of(core_of, program) is not None:
                continue
            hands, most = dice.randrange(1, 5), dice.randrange(40)
            run, slow = NeedRun(program, hands), SlowRun(core_of(program), hands)
            many = before = 0
            while many < most:
                for hand in range(hands):
                    many += many < most and slow.step(hand)
                if many == before:
                    break
                before = many
            self.assertEqual(run.rounds(most), many)
            self.assertEqual(told(run)[:3], (slow.state(), slow.answer(), slow.counts()))

    def test_words(self):
        # Waiting, then a value that is met.
        run = NeedRun(("let", "x", N, make("P", X, X)), 1)
        self.assertEqual((run.cell_states(), run.hand_states()), ((), (("work", 0),)))
        run.step(0)
        self.assertEqual((run.cell_states(), run.hand_states(), run.reached()), (("waiting",), (("value", 0),), (0,)))
        run.step(0)
        self.assertEqual((run.hand_states(), run.answer()), ((("work", 0),), make("P", ("later",), ("later",))))
        run.step(0)
        self.assertEqual((run.cell_states(), run.hand_states()), (("black",), (("value", 1),)))
        run.step(0)
        self.assertEqual((run.cell_states(), run.hand_states()), (("value",), (("value", 0),)))
        self.assertEqual(run.rounds(9), 3)
        self.assertEqual((run.state(), run.answer(), run.counts()), ("over", make("P", N, N), (7, 1, 1, 3)))

    def test_black_cells(self):
        run = NeedRun(LOOP, 2)
        self.assertEqual(run.rounds(9), 2)
        self.assertEqual((run.state(), run.answer(), run.hand_states()), ("still", ("later",), (("work", 1), ("idle", 0))))
        self.assertEqual((run.has_step(0), run.has_step(1), run.step(0), run.reached()), (False, False, False, (0,)))
        # A word of a par that comes to be black: another hand waits for it.
        run = NeedRun(("let", "x", ("let", "y", M, Y), ("par", "x", X)), 2)
        self.assertEqual([run.step(0), run.step(0), run.step(1), run.step(1), run.has_step(0), run.step(0)],
                         [True, True, True, True, False, False])
        self.assertEqual(run.hand_states(), (("work", 0), ("work", 1)))
        self.assertEqual((run.cell_states(), run.state()), (("black",), "on"))
        self.assertEqual(run.rounds(99), 7)
        self.assertEqual((run.state(), run.answer()), ("over", M))

    def test_calls_and_arguments(self):
        self.assertEqual(states(calls(fun("x", X), N), 1, 7), [
            (("work", 0),), (("work", 0),), (("value", 1),), (("work", 0),), (("value", 1),), (("value", 0),), (("idle", 0),),
            (("idle", 0),)])
        # Something made takes no argument, and the frames behind it go with it.
        run = NeedRun(calls(N, M, M), 1)
        self.assertEqual(run.rounds(5), 5)
        self.assertEqual(run.hand_states(), (("failed", 1),))
        self.assertEqual(run.rounds(9), 2)
        self.assertEqual((run.state(), run.answer(), run.cell_states()), ("over", ("failed",), ("waiting", "waiting")))

    def test_cells_that_fail(self):
        failing = calls(N, M)
        run = NeedRun(("let", "x", failing, make("P", X, make("S", X))), 1)
        run.rounds(99)
        self.assertEqual((run.state(), run.answer()), ("over", make("P", ("failed",), make("S", ("failed",)))))
        self.assertEqual(run.cell_states()[0], "failed")
        self.assertEqual(run.counts()[2:], (2, 4))
        # A failed cell that is met fails what tests it.
        run = NeedRun(("let", "x", failing, make("P", X, case(X, (ANY, N), (N, N)))), 1)
        self.assertEqual((run.rounds(99) > 0, run.answer()), (True, make("P", ("failed",), N)))
        run = NeedRun(("let", "x", failing, make("P", X, case(X, (N, N), (ANY, N)))), 1)
        self.assertEqual((run.rounds(99) > 0, run.answer()), (True, make("P", ("failed",), ("failed",))))

    def test_tests(self):
        for own, expected in [(N, M), (make("S", N), N), (make("P", N, N), ("failed",)), (fun("x", X), ("failed",))]:
            run = NeedRun(case(own, (N, M), (make("S", Y), Y)), 1)
            run.rounds(99)
            self.assertEqual((run.state(), run.answer()), ("over", expected))
        # A let, the test's frame, and the frame of what it tests.
        self.assertEqual(states(case(calls(fun("x", X), N), (N, M)), 1, 5), [
            (("work", 0),), (("work", 0),), (("work", 1),), (("work", 2),), (("work", 2),), (("value", 3),)])

    def test_funs_are_shown_as_they_are(self):
        run = NeedRun(make("P", fun("x", LOOP), fun("x", X)), 1)
        run.rounds(99)
        self.assertEqual((run.state(), run.answer()), ("over", make("P", ("fun",), ("fun",))))


class HandsTest(unittest.TestCase):

    def test_idle_hands_take_from_the_line(self):
        program = lets("xy", ("par", "x", ("par", "y", ("par", "x", N))))
        run = NeedRun(program, 3)
        self.assertEqual([run.has_step(hand) for hand in range(3)], [True, False, False])
        self.assertEqual(run.rounds(2), 2)
        self.assertEqual(run.has_step(1), False)
        run.step(0)
        self.assertEqual([run.has_step(hand) for hand in range(3)], [True, True, True])
        self.assertEqual(run.reached(), (0, 1))
        run.step(1)
        self.assertEqual([run.has_step(2), run.hand_states()[1]], [False, ("work", 0)])
        # Two cells are worked out by four steps each, the first one is met once more by three.
        self.assertEqual(run.rounds(99), 13)
        self.assertEqual(run.counts(), (17, 2, 2, 1))
        self.assertEqual((run.state(), run.answer(), run.cell_states()), ("over", N, ("value", "value")))

    def test_the_first_hand_goes_on_behind_the_answer(self):
        program = ("let", "x", make("S", N), ("par", "x", M))
        run = NeedRun(program, 1)
        self.assertEqual(run.rounds(3), 3)
        self.assertEqual((run.answer(), run.state(), run.hand_states(), run.has_step(0)), (M, "on", (("idle", 0),), True))
        self.assertEqual(run.rounds(99), 5)
        # What it works out then is not shown.
        self.assertEqual((run.answer(), run.state(), run.counts()), (M, "over", (8, 2, 1, 1)))
        self.assertEqual(run.cell_states(), ("value", "waiting"))
        self.assertEqual(run.reached(), ())

    def test_still_and_over(self):
        # The answer is whole, but a hand waits for ever.
        run = NeedRun(("let", "x", X, ("par", "x", M)), 1)
        run.rounds(99)
        self.assertEqual((run.answer(), run.state(), run.hand_states()), (M, "still", (("work", 1),)))
        run = NeedRun(("let", "x", X, ("par", "x", M)), 2)
        run.rounds(99)
        self.assertEqual((run.answer(), run.state(), run.hand_states()), (M, "still", (("idle", 0), ("work", 1))))

    def test_a_hand_of_its_own_for_each(self):
        for program in [IP, plus(2, 2)]:
            rows = []
            for hands in range(1, 5):
                run = NeedRun(program, hands)
                run.rounds(500)
                rows.append((run.state(), run.answer(), run.counts()))
            self.assertEqual(rows, rows[:1] * 4)
        self.assertEqual(rows[0][1], make("S", make("S", make("S", make("S", N)))))


class ReachedTest(unittest.TestCase):

    def test_words_bound_outside_alone(self):
        # The function's core has y of its own, and x from outside; z is not in it.
        run = NeedRun(lets("zxy", fun("y", make("P", X, Y))), 1)
        self.assertEqual((run.rounds(3), run.hand_states(), run.reached()), (3, (("value", 0),), (1,)))
        # Those of yes and no, but for the parts; the word that is tested is met.
        program = lets("abcd", case(word("a"), (make("S", word("d")), make("P", word("b"), word("d"))), (ANY, word("c"))))
        run = NeedRun(program, 1)
        run.rounds(5)
        self.assertEqual((run.hand_states(), run.reached()), ((("work", 1),), (0, 1, 2)))
        run.rounds(1)
        self.assertEqual((run.hand_states(), run.reached()), ((("value", 2),), (1, 2)))
        run.rounds(2)
        self.assertEqual((run.hand_states(), run.reached()), ((("work", 0),), (2,)))

    def test_frames_and_cells(self):
        # The argument waits in a frame; a black cell has nothing.
        run = NeedRun(calls(fun("x", "y", X), N, M), 1)
        run.rounds(4)
        self.assertEqual((run.hand_states(), run.reached()), ((("value", 2),), (0, 1)))
        run.rounds(1)
        self.assertEqual((run.hand_states(), run.reached()), ((("value", 1),), (0, 1)))
        run.rounds(1)
        self.assertEqual((run.hand_states(), run.reached()), ((("work", 0),), (1,)))
        run.rounds(1)
        self.assertEqual((run.hand_states(), run.cell_states(), run.reached()), ((("value", 1),), ("waiting", "black"), ()))
        # A value has cells, and what waits to be shown is reached.
        run = NeedRun(make("P", make("S", N), make("S", M)), 1)
        run.rounds(3)
        self.assertEqual((run.cell_states(), run.reached()), (("waiting", "waiting"), (0, 1)))
        run.rounds(3)
        self.assertEqual((run.cell_states(), run.reached()), (("value", "waiting", "waiting"), (1, 2)))


class TooManyTest(unittest.TestCase):

    def spoilt(self, run, hand, limit):
        """A step is one too many, and changes nothing."""
        ahead = told(run)
        self.assertIs(run.has_step(hand), True)
        self.assertEqual(limit_of(run.step, hand), limit)
        self.assertEqual(told(run), ahead)
        self.assertEqual(limit_of(run.step, hand), limit)

    def test_5000_steps(self):
        loop = ("let", "f", fun("x", calls(word("f"), X)), calls(word("f"), N))
        run = NeedRun(loop, 1)
        self.assertEqual(run.rounds(5000), 5000)
        self.assertEqual((run.counts()[0], run.state()), (5000, "on"))
        self.spoilt(run, 0, 5000)
        self.assertEqual(run.rounds(0), 0)
        self.assertEqual(limit_of(run.rounds, 1), 5000)

    def test_2000_cells(self):
        grow = ("let", "f", fun("x", lets("uvw", calls(word("f"), X))), calls(word("f"), N))
        run = NeedRun(grow, 1)
        self.assertEqual(limit_of(run.rounds, 5000), 2000)
        self.assertEqual(run.counts()[1], 2000)
        self.assertLess(run.counts()[0], 5000)
        self.spoilt(run, 0, 2000)

    def test_400_frames(self):
        # Of arguments, of tests, and of cells.
        for program in [("let", "f", fun("x", calls(word("f"), X, X)), calls(word("f"), N)),
                        ("let", "f", fun("x", case(calls(word("f"), X), (N, N))), calls(word("f"), N)),
                        ("let", "f", fun("x", ("let", "y", calls(word("f"), X), Y)), calls(word("f"), N))]:
            run = NeedRun(program, 1)
            self.assertEqual(limit_of(run.rounds, 5000), 400)
            self.assertEqual(run.hand_states()[0][1], 400)
            self.spoilt(run, 0, 400)

    def test_200_parts_shown(self):
        run = NeedRun(ENDLESS, 2)
        self.assertEqual(limit_of(run.rounds, 5000), 200)
        self.assertEqual(run.counts()[3], 200)
        self.spoilt(run, 0, 200)
        answer, deep = run.answer(), 0
        while answer != ("later",):
            answer, deep = answer[2][0], deep + 1
        self.assertEqual(deep, 200)
        # Just 200 are not too many.
        run = NeedRun(wide(50), 1)
        self.assertEqual(run.rounds(5000) > 400, True)
        self.assertEqual((run.state(), run.counts()[3]), ("over", 201 - 1))

    def test_which_comes_first(self):
        # The first hand would show one part too many; a loop of the other one uses the steps up.
        loop = ("let", "f", fun("x", calls(word("f"), X)), ("let", "l", calls(word("f"), N), ("par", "l", ENDLESS)))
        run = NeedRun(loop, 2)
        while limit_of(run.step, 0) is None:
            continue
        self.spoilt(run, 0, 200)
        while limit_of(run.step, 1) is None:
            continue
        self.assertEqual(run.counts()[0], 5000)
        self.spoilt(run, 1, 5000)
        self.spoilt(run, 0, 5000)

    def test_rounds_keep_what_they_did(self):
        run = NeedRun(ENDLESS, 1)
        self.assertEqual(limit_of(run.rounds, 5000), 200)
        self.assertEqual((run.counts()[3], run.state()), (200, "on"))
        self.assertEqual(limit_of(run.rounds, 5000), 200)

    def test_cores_that_are_too_great(self):
        four = make("T", N, N, N, N)
        rows = [(make("T", four, four, four, four), N), (ANY, spread(13))]
        self.assertEqual(limit_of(NeedRun, fun(*["y"] * 12, case(Y, *rows)), 1), 600)
        self.assertEqual(limit_of(NeedRun, fun(*["y"] * 11, case(Y, *rows)), 1), None)


def wide(many):
    """A program whose answer has 4 * many parts in all, one of them the whole."""
    body = make("K", X, X, X)
    for _ in range(many - 1):
        body = ("fun", "x", body)
    inner = ("let", "g", fun("c", case(word("c"), (make("S", word("d")), make("K", X, X, X, calls(word("g"), word("d")))), (
        ANY, make("L", X, X, X)))), calls(word("g"), word("n")))
    return ("let", "x", N, ("let", "n", count(many - 1), inner))


def count(many):
    """A program for a number, which doubles and adds one."""
    if many < 6:
        return N if many == 0 else make("S", count(many - 1))
    own = word("p")
    plus_core = fun("a", "b", case(word("a"), (N, word("b")), (make("S", word("c")), make("S", calls(own, word("c"), word("b"))))))
    half, rest = divmod(many, 2)
    double = ("let", "h", count(half), ("let", "p", plus_core, calls(own, word("h"), word("h"))))
    return make("S", double) if rest else double


class WrongArgumentsTest(unittest.TestCase):

    def test_programs_and_hands(self):
        for value in ODD_VALUES + [X, list(IP)]:
            self.assertRaises(InvalidProgram, NeedRun, value, None)
        for value in [None, True, False, 0, 5, -1, 10 ** 100, "1", (1,), [1]]:
            self.assertRaises(InvalidNumber, NeedRun, IP, value)

    def test_hands_of_the_run(self):
        for hands in range(1, 5):
            run = NeedRun(IP, hands)
            for value in [None, True, False, -1, hands, 10 ** 100, "0", (0,), [0]]:
                self.assertRaises(InvalidHand, run.has_step, value)
                self.assertRaises(InvalidHand, run.step, value)
            self.assertEqual(run.counts()[0], 0)

    def test_numbers(self):
        run = NeedRun(IP, 1)
        for value in [None, True, False, -1, 5001, 10 ** 100, "0", (0,), [0]]:
            self.assertRaises(InvalidNumber, run.rounds, value)
        self.assertEqual(run.counts()[0], 0)

    def test_no_more_steps_behind_the_end(self):
        run = NeedRun(IP, 2)
        run.rounds(99)
        self.assertEqual((run.rounds(5000), run.step(0), run.step(1), run.state()), (0, False, False, "over"))

    def test_a_program_stays_as_it_is(self):
        program = plus(2, 1)
        copy = plus(2, 1)
        runs = [NeedRun(program, 1), NeedRun(program, 2)]
        runs[0].rounds(99)
        self.assertEqual((program, runs[1].counts()[0]), (copy, 0))


if __name__ == "__main__":
    unittest.main()
