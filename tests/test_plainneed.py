"""The plain meaning: [42] and [88], and what [3] promises of it."""

import unittest

from sharefold.errors import InvalidNumber, InvalidProgram
from sharefold.needways import answer_by_rounds
from sharefold.plainneed import plain_answer
from tests.program_samples import ANY, ENDLESS, IP, LOOP, N, X, Y, calls, case, fun, great_number, make, plus, word
from tests.samples import ODD_VALUES, limit_of
from tests.test_needways import GREAT, right_programs

M = make("M")


def depth(answer):
    deep, row = 0, [answer]
    while row:
        deep += 1
        row = [part for own in row if own[0] == "make" for part in own[2]]
    return deep


def chain_of(many, end):
    """A program whose answer is so many of a kind within one another, around an end."""
    body = fun("a", case(word("a"), (N, end), (make("S", word("b")), make("R", calls(word("g"), word("b"))))))
    return great_number(many, ("let", "g", body, calls(word("g"), word("n"))))


class PlainTest(unittest.TestCase):

    def test_like_runs_by_need(self):
        over = none = 0
        for program in right_programs(421, 500, 30):
            found = plain_answer(program, 5000)
            if limit_of(answer_by_rounds, program, 2) is not None:
                continue
            state, answer, _ = answer_by_rounds(program, 2)
            if state == "over" and found is not None:
                self.assertEqual(found, answer)
                over += 1
            none += found is None
        self.assertGreater(over, 250)
        self.assertGreater(none, 10)

    def test_one_by_one(self):
        for program, expected in [
                (N, N), (IP, N), (fun("x", X), ("fun",)), (calls(N, M), ("failed",)), (plus(2, 3), make("S", plus_answer(4))),
                (case(N, (M, N)), ("failed",)), (case(fun("x", X), (N, M)), ("failed",)), (case(fun("x", X), (X, M)), M),
                (make("P", calls(N, N), fun("x", X)), make("P", ("failed",), ("fun",))), (("let", "x", LOOP, N), N),
                (("let", "x", LOOP, ("par", "x", M)), M), (calls(fun("x", N), LOOP), N), (calls(LOOP, N), None),
                (case(calls(N, N), (ANY, M)), M), (case(make("S", LOOP), (make("S", ANY), M)), M)]:
            self.assertEqual(plain_answer(program, 5000), expected)

    def test_what_runs_by_need_cannot_end(self):
        # A run is still where something needs itself; by name there is no end, either.
        self.assertIsNone(plain_answer(LOOP, 5000))
        self.assertIsNone(plain_answer(("let", "x", make("P", N, case(X, (N, M))), LOOP), 5000))
        self.assertEqual(plain_answer(("let", "x", make("P", N, case(X, (make("P", Y, ANY), Y))), X), 5000), make("P", N, N))

    def test_steps(self):
        # Each core that is met is a step at least, and three at most.
        for program, cores in [(N, 1), (fun("x", X), 1), (calls(fun("x", X), N), 5), (IP, 8)]:
            answer = plain_answer(program, 5000)
            self.assertIsNotNone(answer)
            self.assertIsNone(plain_answer(program, 0))
            self.assertIsNone(plain_answer(program, cores - 1))
            self.assertEqual(plain_answer(program, 3 * cores), answer)

    def test_no_end(self):
        for program in [ENDLESS, ("let", "f", fun("x", calls(word("f"), X)), calls(word("f"), N)),
                        ("let", "x", make("P", X, X), X), ("let", "f", fun("x", calls(word("f"), X, X)), calls(word("f"), N))]:
            for most in [0, 1, 100, 5000]:
                self.assertIsNone(plain_answer(program, most))

    def test_200_deep_and_deeper(self):
        for many in [100, 150, 197, 198, 199, 200, 201, 202, 220]:
            found = plain_answer(tower(many, N), 5000)
            self.assertEqual(None if found is None else depth(found), many + 1 if many + 1 <= 200 else None)
            for end in [fun("z", N), calls(N, N)]:
                # The innermost one may be counted, or not.
                found = plain_answer(tower(many, end), 5000)
                if many != 200:
                    self.assertEqual(None if found is None else depth(found), many + 1 if many < 200 else None)

    def test_chains_are_answers_of_runs(self):
        program = chain_of(9, N)
        self.assertEqual(plain_answer(program, 5000), answer_by_rounds(program, 1)[1])
        self.assertEqual(depth(plain_answer(program, 5000)), 10)


def plus_answer(many):
    return make("S", plus_answer(many - 1)) if many else N


def tower(many, end):
    """A program whose answer is so many of a kind within one another, around an end, by few steps."""
    body = X
    for _ in range(10):
        body = make("S", body)
    five = X
    for _ in range(5):
        five = calls(word("f"), five)
    program = word("e")
    for _ in range(many % 10):
        program = make("S", program)
    for _ in range(many // 10 % 5):
        program = calls(word("f"), program)
    for _ in range(many // 50):
        program = calls(word("g"), program)
    return ("let", "e", end, ("let", "f", fun("x", body), ("let", "g", fun("x", five), program)))


class WrongArgumentsTest(unittest.TestCase):

    def test_programs_numbers_and_cores(self):
        for value in ODD_VALUES + [X, list(IP)]:
            self.assertRaises(InvalidProgram, plain_answer, value, None)
        for value in [None, True, False, -1, 5001, 10 ** 100, "0", (0,), [0]]:
            self.assertRaises(InvalidNumber, plain_answer, GREAT, value)
        self.assertEqual(limit_of(plain_answer, GREAT, 0), 600)
        self.assertEqual(limit_of(plain_answer, GREAT, 5000), 600)
        self.assertEqual(plain_answer(GREAT[2], 5000), ("fun",))


if __name__ == "__main__":
    unittest.main()
