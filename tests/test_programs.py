"""Programs: [38] and [83]."""

import unittest

from sharefold.errors import InvalidProgram
from sharefold.programs import is_program, program_kinds
from tests.program_samples import ANY, F, IF, IP, N, X, calls, case, fun, kinds_row, make, nested_make, plus
from tests.program_samples import random_programs, word
from tests.samples import ODD_VALUES


def size(own):
    """How many expressions and patterns there are in one."""
    parts = {"word": [], "any": [], "fun": own[2:], "call": own[1:], "let": own[2:], "par": own[2:],
             "make": own[2] if own[0] == "make" else []}
    if own[0] == "case":
        return 1 + size(own[1]) + sum(size(part) for row in own[2] for part in row)
    return 1 + sum(size(part) for part in parts[own[0]])


def kinds_in(own):
    if not isinstance(own, tuple):
        return set()
    told = {(own[1], len(own[2]))} if own[:1] == ("make",) else set()
    return told.union(*[kinds_in(part) for part in own])


class FormsTest(unittest.TestCase):

    def test_each_form(self):
        for value in [N, IF, IP, fun("x", X), ("let", "x", X, X), fun("x", ("par", "x", X)), calls(N, N), plus(2, 2),
                      case(N, (ANY, N)), fun("x", case(X, (word("y"), word("y")))), make("K", N, N, N, N)]:
            self.assertIs(is_program(value), True, value)
            self.assertEqual(program_kinds(value), tuple(sorted(kinds_in(value))))

    def test_random_programs(self):
        for value in random_programs(371, 300, 40):
            kinds = kinds_in(value)
            self.assertIs(is_program(value), size(value) <= 120)
            if size(value) <= 120:
                self.assertEqual(program_kinds(value), tuple(sorted(kinds)))
                self.assertIs(is_program(list(value)), False)

    def test_spoilt_forms(self):
        row = (ANY, N)
        for value in [("fun", "x"), ("fun", "x", X, X), ("fun", X, X), ("fun", "X", N), ("fun", "", N), ("fun", None, N),
                      ["fun", "x", X], ("call", N), ("call", N, N, N), ("call", N, None), ("let", "x", N), ("let", "x", N, N, N),
                      ("let", "1", N, N), ("let", "X", N, N), ("let", ("x",), N, N), ("make", "N"), ("make", "N", (), ()),
                      ("make", "n", ()), ("make", "N", []), ("make", "N", None), ("make", "N", N), ("make", ("N",), ()),
                      ("make", "N", (None,)), ("case", N), ("case", N, row), ("case", N, [row]), ("case", N, ([ANY, N],)),
                      ("case", N, ((ANY,),)), ("case", N, ((ANY, N, N),)), ("case", N, ()), ("case", None, (row,)),
                      ("case", N, (row,), N), ("case", N, ((N, ANY),)), ("case", N, ((None, N),)), ("case", N, ((ANY, None),)),
                      ("par", "x", N), ("any",), ("word",), ("word", "x", "x"), ("none",), ("Make", "N", ()), ("fun", "x", ANY),
                      ("case", N, ((fun("x", X), N),)), ("case", N, ((("any", "x"), N),)), ("case", N, ((("word",), N),)),
                      ("case", N, ((["any"], N),)), ("case", N, ((("make", "N", []), N),)), fun("x", ("par", X, X)),
                      fun("x", ("par", ["x"], X)), fun("x", ("par", "x")), fun("x", ("par", "x", X, X))]:
            self.assertIs(is_program(value), False, value)
            self.assertRaises(InvalidProgram, program_kinds, value)

    def test_any_values(self):
        for value in ODD_VALUES:
            self.assertIs(is_program(value), False)
            self.assertRaises(InvalidProgram, program_kinds, value)
            for outer in [("fun", "x", value), ("call", value, N), make("S", value), case(value, (ANY, N)), case(N, (value, N)),
                          case(N, value), ("case", N, value), ("case", N, (value,)), ("make", value, ()), ("make", "S", value),
                          ("let", value, N, N), ("par", value, N), ("word", value), fun("x", ("word", value)), (value, "x", N)]:
                # Some strings are words.
                if value not in ("name", "A", ()):
                    self.assertIs(is_program(outer), False, outer)


class WordsTest(unittest.TestCase):

    def test_words(self):
        for own, expected in [("a", True), ("z", True), ("abcdefgh", True), ("a1234567", True), ("a0z9", True), ("abcdefghi", False),
                              ("", False), ("0", False), ("1a", False), ("A", False), ("aB", False), ("a_", False), ("a-b", False),
                              ("a ", False), (" a", False), ("a\n", False), ("`", False), ("{", False), ("a/", False), ("a:", False),
                              (1, False), (None, False), (True, False), (("a",), False)]:
            self.assertIs(is_program(("fun", own, N)), expected, own)
            self.assertIs(is_program(("let", own, N, N)), expected, own)
            self.assertIs(is_program(case(N, (("word", own), N))), expected, own)

    def test_kinds(self):
        for own, expected in [("A", True), ("Z", True), ("Abcdefgh", True), ("A1234567", True), ("Abcdefghi", False), ("", False),
                              ("a", False), ("AB", False), ("A_", False), ("1", False), ("A ", False), ("@", False), ("[", False),
                              (1, False), (None, False), (("A",), False)]:
            self.assertIs(is_program(("make", own, ())), expected, own)
            self.assertIs(is_program(case(N, (("make", own, ()), N))), expected, own)

    def test_bound_and_not(self):
        for value, expected in [
                (X, False), (fun("x", X), True), (fun("y", X), False), (calls(fun("x", X), X), False),
                (("let", "x", X, N), True), (("let", "x", N, X), True), (calls(("let", "x", N, N), X), False),
                (make("S", X), False), (fun("x", make("S", X)), True), (case(X, (ANY, N)), False),
                (case(N, (X, X)), True), (case(N, (X, N), (ANY, X)), False), (case(X, (X, X)), False),
                (case(N, (make("S", X), X)), True), (case(N, (make("P", word("y"), X), calls(X, word("y")))), True),
                (("par", "x", N), False), (fun("x", ("par", "x", N)), True), (fun("x", ("par", "y", N)), False),
                (("let", "x", ("par", "x", N), N), True), (fun("f", calls(F, F)), True), (fun("x", fun("x", X)), True)]:
            self.assertIs(is_program(value), expected, value)

    def test_a_word_twice_in_one_pattern(self):
        self.assertIs(is_program(case(N, (make("P", X, X), N))), False)
        self.assertIs(is_program(case(N, (make("P", make("S", X), make("S", make("S", X))), N))), False)
        self.assertIs(is_program(case(N, (X, N), (X, N))), True)
        self.assertIs(is_program(case(N, (X, case(N, (X, X))))), True)
        self.assertIs(is_program(case(N, (make("P", ANY, ANY), N))), True)


class BoundsTest(unittest.TestCase):

    def test_120_expressions_and_patterns_and_one_more(self):
        part = make("P", make("P", N, N, N, N), make("P", N, N, N, N), make("P", N, N, N, N), make("P", N, N, N, N))
        self.assertEqual(size(part), 21)
        five = calls(part, part, part, part, part)
        self.assertEqual(size(five), 109)
        for many in range(14):
            value = fun(*["x"] * many, five)
            self.assertIs(is_program(value), many <= 11, many)
        # Patterns count, and the parts of patterns.
        for many in range(14):
            rows = [(ANY, N)] * (many // 2)
            value = case(five, *rows, *([(make("S", ANY), N)] if many % 2 else []))
            if rows or many % 2:
                self.assertIs(is_program(value), size(value) <= 120, many)

    def test_20_within_one_another_and_one_more(self):
        for many in [19, 20, 21]:
            self.assertIs(is_program(nested_make(many)), many <= 20)
            self.assertIs(is_program(fun(*["x"] * (many - 1), X)), many <= 20)
            self.assertIs(is_program(case(N, (nested_make(many - 1), N))), many <= 20)
            self.assertIs(is_program(case(N, (ANY, nested_make(many - 1)))), many <= 20)
            self.assertIs(is_program(case(nested_make(many - 1), (ANY, N))), many <= 20)
            self.assertIs(is_program(fun("x", case(X, (nested_make(many - 2), N)))), many <= 20)
            inner = X
            for _ in range(many - 2):
                inner = ("par", "x", inner)
            self.assertIs(is_program(fun("x", inner)), many <= 20)
            inner = N
            for _ in range(many - 1):
                inner = ("let", "x", inner, N)
            self.assertIs(is_program(inner), many <= 20)

    def test_12_kinds_and_one_more(self):
        for many in [12, 13]:
            self.assertIs(is_program(calls(*kinds_row(many))), many <= 12)
        for many in [11, 12]:
            # Kinds of patterns count, too, and N is one more.
            rows = kinds_row(many)
            value = calls(case(rows[0], *[(own, N) for own in rows[1:7]]), *rows[7:])
            self.assertIs(is_program(value), many <= 11)
        self.assertEqual([kind for kind, _ in program_kinds(calls(*kinds_row(12)[::-1]))], ["K" + sign for sign in "abcdefghijkl"])

    def test_one_number_of_parts(self):
        for value in [calls(make("S"), make("S", N)), make("S", make("S")), case(make("S", N), (make("S"), N)),
                      case(N, (make("S", ANY), make("S"))), case(N, (make("P", make("P"), ANY), N))]:
            self.assertIs(is_program(value), False)

    def test_4_parts_and_8_rows_and_one_more(self):
        for many in range(6):
            self.assertIs(is_program(make("K", *[N] * many)), many <= 4)
            self.assertIs(is_program(case(N, (make("K", *[ANY] * many), N))), many <= 4)
        for many in range(10):
            self.assertIs(is_program(("case", N, ((ANY, N),) * many)), 1 <= many <= 8)


if __name__ == "__main__":
    unittest.main()
