"""Cores: [40] and [85]."""

import random
import unittest

from sharefold.cores import core_of
from sharefold.errors import InvalidProgram
from sharefold.programs import is_program
from tests.program_oracle import core_size, slow_core, slow_tree, tree_size
from tests.program_samples import ANY, IF, IP, LOOP, N, X, Y, calls, case, fun, make, plus, random_programs, word
from tests.samples import ODD_VALUES, limit_of

M = make("M")


class CoreTest(unittest.TestCase):

    def test_random_programs(self):
        great = 0
        for program in random_programs(391, 600, 40):
            if is_program(program):
                expected = slow_core(program)
                limit = limit_of(core_of, program)
                self.assertEqual(limit, 600 if core_size(expected) > 600 else None)
                if limit is None:
                    self.assertEqual(core_of(program), expected)
                great += core_size(expected) > 60
        self.assertGreater(great, 20)

    def test_each_form(self):
        self.assertEqual(core_of(N), ("make", "N", ()))
        self.assertEqual(core_of(fun("x", X)), ("fun", 0, ("word", 0)))
        self.assertEqual(core_of(fun("x", "x", X)), ("fun", 0, ("fun", 1, ("word", 1))))
        self.assertEqual(core_of(LOOP), ("let", 0, ("word", 0), ("word", 0)))
        self.assertEqual(core_of(fun("x", ("par", "x", X))), ("fun", 0, ("par", 0, ("word", 0))))
        self.assertEqual(core_of(fun("x", calls(X, X))), ("fun", 0, ("call", ("word", 0), 0)))
        self.assertEqual(core_of(fun("x", make("P", X, X))), ("fun", 0, ("make", "P", (0, 0))))
        self.assertEqual(core_of(fun("x", case(X, (Y, Y)))), ("fun", 0, ("word", 0)))

    def test_what_is_no_word_is_told_by_a_let(self):
        self.assertEqual(core_of(calls(N, M)), ("let", 0, ("make", "M", ()), ("call", ("make", "N", ()), 0)))
        self.assertEqual(core_of(calls(fun("x", X), M)), ("let", 0, ("make", "M", ()), ("call", ("fun", 1, ("word", 1)), 0)))
        self.assertEqual(core_of(fun("x", make("T", N, X, M))), (
            "fun", 0, ("let", 1, ("make", "N", ()), ("let", 2, ("make", "M", ()), ("make", "T", (1, 0, 2))))))
        self.assertEqual(core_of(case(N, (X, X))), ("let", 0, ("make", "N", ()), ("word", 0)))
        # The function of a call is no argument.
        self.assertEqual(core_of(calls(fun("x", X), N, M))[0:2], ("let", 0))
        self.assertEqual(core_of(calls(N, N, M)), (
            "let", 0, ("make", "M", ()), ("call", ("let", 1, ("make", "N", ()), ("call", ("make", "N", ()), 1)), 0)))

    def test_words_as_they_are_made(self):
        # The argument's let, those in the argument, then those of the function.
        self.assertEqual(core_of(calls(fun("x", X), fun("y", Y))), (
            "let", 0, ("fun", 1, ("word", 1)), ("call", ("fun", 2, ("word", 2)), 0)))
        # Part by part.
        self.assertEqual(core_of(make("P", fun("x", X), fun("y", Y))), (
            "let", 0, ("fun", 1, ("word", 1)), ("let", 2, ("fun", 3, ("word", 3)), ("make", "P", (0, 2)))))
        # The let's own word ahead of those in both.
        self.assertEqual(core_of(("let", "x", fun("y", Y), fun("y", X))), (
            "let", 0, ("fun", 1, ("word", 1)), ("fun", 2, ("word", 0))))
        # Test by test those of the parts, of yes, of no.
        program = fun("x", case(X, (make("P", word("a"), make("S", word("b"))), fun("c", word("b"))), (ANY, fun("d", X))))
        self.assertEqual(core_of(program), (
            "fun", 0, ("test", 0, "P", (1, 2), ("test", 2, "S", (3,), ("fun", 4, ("word", 3)), ("fun", 5, ("word", 0))),
                       ("fun", 6, ("word", 0)))))

    def test_a_row_may_stand_several_times_or_not_at_all(self):
        program = case(N, (make("P", N, N), M), (ANY, make("S", N)), (N, fun("z", N)))
        core = core_of(program)
        self.assertEqual(str(core).count("'S'"), 3)
        self.assertEqual(str(core).count("fun"), 0)
        self.assertEqual(core_of(case(N, (N, M))), (
            "let", 0, ("make", "N", ()), ("test", 0, "N", (), ("make", "M", ()), ("none",))))

    def test_words_that_are_bound_again(self):
        program = fun("x", case(X, (make("S", X), X), (ANY, X)))
        self.assertEqual(core_of(program), ("fun", 0, ("test", 0, "S", (1,), ("word", 1), ("word", 0))))
        self.assertEqual(core_of(fun("x", ("let", "x", X, X))), ("fun", 0, ("let", 1, ("word", 1), ("word", 1))))


class BoundsTest(unittest.TestCase):

    def test_600_nodes_and_one_more(self):
        # The second row stands behind each of the 21 tests of the first one; functions are one node more each.
        four = make("T", N, N, N, N)
        rows = [(make("T", four, four, four, four), N), (ANY, spread(13))]
        for many, size in [(10, 599), (11, 600), (12, 601), (14, 603)]:
            program = fun(*["y"] * many, case(Y, *rows))
            self.assertEqual(core_size(slow_core(program)), size)
            self.assertEqual(limit_of(core_of, program), None if size <= 600 else 600)
        self.assertEqual(core_of(fun(*["y"] * 11, case(Y, *rows))), slow_core(fun(*["y"] * 11, case(Y, *rows))))
        # Far more: rows that stand again and again, in one another.
        again = case(Y, *rows[:1], (ANY, case(Y, *rows[:1], (ANY, case(Y, *rows)))))
        self.assertIs(is_program(fun("y", again)), True)
        self.assertEqual(limit_of(core_of, fun("y", again)), 600)

    def test_trees_that_are_too_great(self):
        dice = random.Random(392)
        rows = []
        for _ in range(8):
            parts = [ANY] * 4
            for at in dice.sample(range(4), 2):
                inner = [ANY] * 3
                inner.insert(dice.randrange(4), dice.choice([N, M]))
                parts[at] = make("T", *inner)
            rows.append(make("T", *parts))
        program = fun("x", case(X, *[(own, N) for own in rows]))
        self.assertIs(is_program(program), True)
        self.assertGreater(tree_size(slow_tree(rows)), 300)
        self.assertIn(limit_of(core_of, program), [300, 600])
        # In a row that never fits it is no matter.
        self.assertEqual(core_of(fun("x", case(X, (Y, Y), (ANY, program[2])))), ("fun", 0, ("word", 0)))


def spread(many):
    """Something made of a kind, with so many others made within it; its core has 2 * many + 1 nodes."""
    if many % 4:
        return make("S", spread(many - 1))
    return make("K", N, N, N, spread(many - 4)) if many else N


class WrongArgumentsTest(unittest.TestCase):

    def test_no_programs(self):
        for value in ODD_VALUES + [X, list(IF), make("S", X), fun("x", Y)]:
            self.assertRaises(InvalidProgram, core_of, value)
        self.assertEqual(core_of(plus(1, 2)), slow_core(plus(1, 2)))
        self.assertEqual(core_of(IP), slow_core(IP))


if __name__ == "__main__":
    unittest.main()
