"""Terms of programs, and what normal terms tell: [43] and [89], and what [3] promises of them."""

import unittest

from sharefold.bridges import answer_by_term, term_of, told_by
from sharefold.cores import core_of
from sharefold.errors import InvalidNumber, InvalidProgram, InvalidTerm
from sharefold.needways import answer_by_rounds
from sharefold.programs import is_program, program_kinds
from sharefold.steps import is_normal
from sharefold.terms import height_of, is_term, size_of
from sharefold.termtexts import read_term
from sharefold.ways import leftmost_way
from tests.program_oracle import slow_term
from tests.program_samples import ANY, ENDLESS, IF, IP, LOOP, N, X, Y, calls, case, fun, kinds_row, make, plus, word
from tests.program_samples import random_programs
from tests.samples import A, I, ODD_VALUES, T, limit_of, random_terms
from tests.samples import call as called
from tests.samples import funs
from tests.test_needways import GREAT, right_programs

M = make("M")
OTHER = ("other",)


def sizes(term):
    if term[0] in ("name", "letter"):
        return 1, 1
    rows = [sizes(part) for part in term[1:]]
    return 1 + sum(size for size, _ in rows), 1 + max(height for _, height in rows)


def is_made(answer):
    return answer[0] == "make" and all(is_made(part) for part in answer[2])


class TermTest(unittest.TestCase):

    def test_random_programs(self):
        seen = {None: 0, 600: 0, 60: 0}
        for program in right_programs(431, 600, 26):
            expected = slow_term(core_of(program), program_kinds(program))
            size, height = sizes(expected)
            limit = 600 if size > 600 else 60 if height > 60 else None
            self.assertEqual(limit_of(term_of, program), limit)
            if limit is None:
                self.assertEqual(term_of(program), expected)
                self.assertIs(is_term(expected), True)
            seen[limit] += 1
        self.assertGreater(seen[None], 300)

    def test_each_form(self):
        knot = "(\\f.(\\x.f (x x)) (\\x.f (x x)))"
        # With the kinds N, S: the functions for them in this order.
        for program, text in [
                (fun("x", X), "\\x.x"), (calls(fun("x", X), fun("y", Y)), "(\\a.(\\x.x) a) (\\y.y)"),
                (N, "\\n.n"), (make("S", N), "(\\a.\\n.\\s.s a) (\\n.\\s.n)"),
                (make("P", N, N), "(\\a.(\\b.\\n.\\p.p a b) (\\n.\\p.n)) (\\n.\\p.n)"),
                (("let", "x", fun("y", Y), X), "(\\x.x) (\\y.y)"), (("let", "x", X, X), "(\\x.x) (%s (\\x.x))" % knot),
                (("let", "x", fun("y", X), X), "(\\x.x) (%s (\\x.\\y.x))" % knot),
                (("let", "x", fun("y", ("par", "x", Y)), X), "(\\x.x) (%s (\\x.\\y.y))" % knot),
                (("let", "x", fun("x", X), X), "(\\x.x) (\\x.x)"),
                (fun("x", ("par", "x", X)), "\\x.x"), (fun("x", case(X, (Y, Y))), "\\x.x"),
                (fun("x", case(X, (N, X))), "\\x.(\\n.x x) Z"),
                (fun("x", case(X, (make("S", Y), Y), (N, X))), "\\x.(\\n.x n (\\b.b)) ((\\n.x x (\\b.n)) Z)"),
                (fun("x", case(X, (make("P", Y, word("z")), Y), (make("S", ANY), N))),
                 "\\x.(\\n.x n (\\a.\\b.a) (\\a.n)) ((\\m.x m (\\a.\\b.m) (\\c.\\k.\\l.\\o.k)) Z)")]:
            self.assertEqual(term_of(program), read_term(text), program)

    def test_kinds_ascend(self):
        program = make("P", M, N)
        self.assertEqual(program_kinds(program), (("M", 0), ("N", 0), ("P", 2)))
        self.assertEqual(term_of(program), read_term("(\\a.(\\b.\\m.\\n.\\p.p a b) (\\m.\\n.\\p.n)) (\\m.\\n.\\p.m)"))
        rows = calls(*kinds_row(12)[::-1])
        self.assertEqual(sizes(term_of(rows))[0], size_of(term_of(rows)))


class BoundsTest(unittest.TestCase):

    def test_600_nodes_and_a_height_of_60_and_beyond(self):
        # Functions make the term one node greater, and one higher, each; so many kinds make it wide.
        for program, bound in [(self.wide(), 600), (self.high(3), 60)]:
            size, height = sizes(slow_term(core_of(program), program_kinds(program)))
            measure = size if bound == 600 else height
            rows = []
            for many in range(bound - measure - 1, bound - measure + 2):
                outer = fun(*["q"] * many, program)
                self.assertIs(is_program(outer), True)
                rows.append((limit_of(term_of, outer), sizes(slow_term(core_of(outer), program_kinds(outer)))))
            self.assertEqual([limit for limit, _ in rows], [None, None, bound])
            self.assertEqual(rows[1][1][0 if bound == 600 else 1], bound)
            self.assertEqual(limit_of(answer_by_term, fun(*["q"] * (bound - measure + 1), program), 0), bound)

    def wide(self):
        """A program of 12 kinds whose term has a few nodes less than 600, and is low."""
        rows = kinds_row(11)
        program = make("Km", make("Km", *rows[:4]), make("Km", *rows[4:8]), make("Km", *rows[7:]), rows[8])
        for bound, own in [(500, make("Km", *rows[:4])), (580, rows[0])]:
            while sizes(slow_term(core_of(program), program_kinds(program)))[0] < bound:
                program = calls(program, own)
        return program

    def high(self, many):
        """A program of the same kinds whose term has many levels, and not many nodes."""
        first = kinds_row(1)[0]
        program = first
        for _ in range(many):
            program = case(Y, (first, program), (ANY, first))
        # A row that never fits is not in the core, but its kinds count.
        return fun("y", case(Y, (ANY, program), (ANY, self.wide())))

    def test_too_great_comes_ahead_of_too_high(self):
        seen = {}
        for own in right_programs(432, 200, 60) + [calls(self.high(4), self.wide()), self.high(4), calls(self.high(1), self.wide())]:
            size, height = sizes(slow_term(core_of(own), program_kinds(own)))
            limit = limit_of(term_of, own)
            self.assertEqual(limit, 600 if size > 600 else 60 if height > 60 else None)
            seen[(size > 600, height > 60)] = limit
        self.assertEqual(seen, {(True, True): 600, (False, True): 60, (True, False): 600, (False, False): None})


class ToldTest(unittest.TestCase):

    KINDS = make("P", N, make("S", N))

    def told(self, text):
        """What a term tells by the kinds N, P and S, with 0, 2 and 1 parts."""
        return told_by(self.KINDS, read_term(text))

    def test_kinds(self):
        for text, expected in [
                ("\\n.\\p.\\s.n", N), ("\\n.\\p.\\s.s (\\n.\\p.\\s.n)", make("S", N)),
                ("\\a.\\b.\\c.b (\\n.\\p.\\s.n) (\\n.\\p.\\s.s (\\n.\\p.\\s.n))", make("P", N, make("S", N))),
                ("\\n.\\p.\\s.p A (\\n.\\p.\\s.n)", make("P", OTHER, N)), ("\\n.\\p.\\s.s (\\x.x)", make("S", OTHER)),
                # As many arguments as there are parts.
                ("\\n.\\p.\\s.n A", OTHER), ("\\n.\\p.\\s.s", OTHER), ("\\n.\\p.\\s.s A A", OTHER), ("\\n.\\p.\\s.p A", OTHER),
                ("\\n.\\p.\\s.p A A A", OTHER), ("\\n.\\p.\\s.p", OTHER), ("\\n.\\p.\\s.p A A", make("P", OTHER, OTHER)),
                # As many functions as there are kinds.
                ("\\n.\\p.n", OTHER), ("\\n.\\p.\\s.\\x.n", OTHER), ("\\n.\\p.\\s.A", OTHER), ("\\n.\\p.\\s.Z A", OTHER),
                ("A", OTHER), ("A B", OTHER), ("\\n.A", OTHER), ("\\n.\\p.\\s.\\t.\\u.\\v.u", OTHER),
                # Arguments in which the names stand.
                ("\\n.\\p.\\s.s n", make("S", OTHER)), ("\\n.\\p.\\s.s (\\a.\\b.\\c.c n)", make("S", OTHER)),
                ("\\n.\\p.\\s.s (\\a.\\b.\\c.n)", make("S", OTHER)), ("\\n.\\p.\\s.p s (\\a.\\b.\\c.a)", make("P", OTHER, N)),
                ("\\n.\\p.\\s.s (\\a.\\b.\\c.c (\\d.\\e.\\f.s d))", make("S", OTHER)),
                ("\\n.\\p.\\s.s (\\a.\\b.\\c.c (\\d.\\e.\\f.c d))", make("S", make("S", OTHER))),
                ("\\n.\\p.\\s.s (\\a.\\b.\\c.c (\\d.\\e.\\f.f d))", make("S", make("S", make("S", OTHER)))),
                ("\\n.\\p.\\s.s (\\a.\\b.\\c.c (\\d.\\e.\\f.d))", make("S", make("S", N)))]:
            self.assertEqual(self.told(text), expected, text)

    def test_terms_that_are_not_normal(self):
        for text in ["(\\x.x) A", "\\n.\\p.\\s.s ((\\x.x) A)", "\\n.\\p.\\s.n ((\\x.x) A)"]:
            self.assertIsNone(self.told(text))
        for term in random_terms(433, 100, 20):
            self.assertIs(told_by(self.KINDS, term) is None, not is_normal(term))

    def test_no_kinds_at_all(self):
        for term in [A, I, funs(3, ("name", 1))]:
            self.assertEqual(told_by(fun("x", X), term), OTHER)

    def test_one_kind(self):
        self.assertEqual([told_by(N, I), told_by(N, funs(2, ("name", 1))), told_by(N, funs(1, called(("name", 0), A)))],
                         [N, OTHER, OTHER])

    def test_back_from_terms_of_kinds(self):
        for program in [N, make("P", N, M), make("P", make("S", N), make("P", M, make("S", M)))]:
            self.assertEqual(answer_by_term(program, 200), program)


class AnswerTest(unittest.TestCase):

    def test_like_runs_by_need(self):
        kinds = told = 0
        for program in right_programs(434, 500, 26):
            if limit_of(term_of, program) is not None:
                self.assertEqual(limit_of(answer_by_term, program, 200), limit_of(term_of, program))
                continue
            term = term_of(program)
            found = answer_by_term(program, 200)
            way, behind = leftmost_way(term, 200)
            self.assertEqual(found, told_by(program, behind))
            if found is not None and way:
                self.assertIsNone(answer_by_term(program, len(way) - 1))
                self.assertEqual(answer_by_term(program, len(way)), found)
            if limit_of(answer_by_rounds, program, 1) is None and answer_by_rounds(program, 1)[0] == "over":
                answer = answer_by_rounds(program, 1)[1]
                if is_made(answer) and (found is not None or len(way) < 200 and is_normal(behind)):
                    self.assertEqual(found, answer)
                    told += 1
                kinds += is_made(answer)
        self.assertGreater(told, 100)
        self.assertGreaterEqual(kinds, told)

    def test_one_by_one(self):
        self.assertEqual([answer_by_term(IP, 200), answer_by_term(N, 0), answer_by_term(IP, 0)], [N, N, None])
        self.assertEqual(answer_by_term(plus(1, 1), 200), make("S", make("S", N)))
        self.assertEqual(answer_by_term(make("S", fun("x", X)), 200), make("S", OTHER))
        for program in [LOOP, ENDLESS]:
            self.assertIsNone(answer_by_term(program, 200))
        self.assertEqual(answer_by_term(IF, 200), OTHER)


class WrongArgumentsTest(unittest.TestCase):

    def test_from_left_to_right(self):
        for value in ODD_VALUES + [X, list(IP)]:
            self.assertRaises(InvalidProgram, term_of, value)
            self.assertRaises(InvalidProgram, told_by, value, None)
            self.assertRaises(InvalidProgram, answer_by_term, value, None)
        for value in ODD_VALUES:
            if value != A:
                self.assertRaises(InvalidTerm, told_by, GREAT, value)
        for value in [None, True, False, -1, 201, 10 ** 100, "0", (0,), [0]]:
            self.assertRaises(InvalidNumber, answer_by_term, GREAT, value)

    def test_cores_that_are_too_great(self):
        self.assertEqual(limit_of(term_of, GREAT), 600)
        self.assertEqual(limit_of(answer_by_term, GREAT, 0), 600)
        # What a term tells needs no core.
        self.assertEqual(told_by(GREAT, A), OTHER)
        self.assertIsNone(told_by(GREAT, T))
        for program in random_programs(435, 50, 20):
            if is_program(program) and limit_of(term_of, program) is None:
                self.assertLessEqual(height_of(term_of(program)), 60)


if __name__ == "__main__":
    unittest.main()
