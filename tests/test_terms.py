"""Terms and their nodes: [4] and [45]."""

import unittest

from sharefold.errors import InvalidNode, InvalidTerm
from sharefold.terms import above, fun_of, height_of, is_term, kinds_of, names_of, part_at, size_of
from tests.samples import A, B, I, ODD_VALUES, T, W, call, calls, full, funs, random_terms, told


def rows_of(row):
    return [row] + [inner for part in row[2] for inner in rows_of(part)]


class IsTermTest(unittest.TestCase):

    def test_terms(self):
        for term in [A, ("letter", "Z"), I, W, T, funs(3, ("name", 2)), ("fun", ("call", ("name", 0), I))]:
            self.assertIs(is_term(term), True)

    def test_odd_values(self):
        for value in ODD_VALUES:
            if value != ("letter", "A"):
                self.assertIs(is_term(value), False, value)

    def test_wrong_parts_deep_within(self):
        for part in [["letter", "A"], ("name", 2), ("name", True), ("letter", "b"), None]:
            self.assertIs(is_term(call(A, funs(2, call(A, part)))), False)
            self.assertIs(is_term(call(part, A)), False)

    def test_names_need_functions(self):
        self.assertIs(is_term(funs(2, ("name", 1))), True)
        self.assertIs(is_term(funs(2, ("name", 2))), False)
        self.assertIs(is_term(call(I, ("name", 0))), False)
        self.assertIs(is_term(call(("name", 0), I)), False)

    def test_600_nodes_and_one_more(self):
        self.assertIs(is_term(funs(1, full(300))), True)
        self.assertEqual(size_of(funs(1, full(300))), 600)
        self.assertIs(is_term(full(301)), False)
        self.assertIs(is_term(funs(2, full(300))), False)

    def test_height_60_and_61(self):
        self.assertIs(is_term(funs(59, A)), True)
        self.assertIs(is_term(funs(60, A)), False)
        self.assertIs(is_term(funs(59, ("name", 58))), True)
        self.assertIs(is_term(calls(59, B)), True)
        self.assertIs(is_term(calls(60, B)), False)
        self.assertIs(is_term(call(*[A] * 60)), True)
        self.assertIs(is_term(call(*[A] * 61)), False)


class NodesTest(unittest.TestCase):

    def test_sizes_and_heights(self):
        self.assertEqual([size_of(term) for term in [A, I, W, T, full(100)]], [1, 2, 4, 9, 199])
        self.assertEqual([height_of(term) for term in [A, I, W, T, funs(59, A), call(A, call(A, I), B)]],
                         [1, 2, 3, 4, 60, 5])

    def test_kinds(self):
        self.assertEqual(kinds_of(A), ["letter"])
        self.assertEqual(kinds_of(T), ["call", "fun", "call", "name", "name", "call", "fun", "name", "letter"])

    def test_parts_as_they_stand(self):
        self.assertEqual([part_at(T, node) for node in range(9)],
                         [T, W, W[1], ("name", 0), ("name", 0), T[2], I, ("name", 0), A])
        self.assertEqual(part_at(funs(2, call(("name", 1), B)), 2), call(("name", 1), B))

    def test_above(self):
        self.assertEqual([above(T, node) for node in range(9)], [None, 0, 1, 2, 2, 0, 5, 6, 5])

    def test_functions_and_names(self):
        term = funs(1, call(call(("name", 0), funs(1, call(("name", 1), ("name", 0)))), ("name", 0)))
        self.assertEqual([fun_of(term, node) for node in [3, 6, 7, 8]], [0, 0, 4, 0])
        self.assertEqual([names_of(term, 0), names_of(term, 4)], [(3, 6, 8), (7,)])
        self.assertEqual(names_of(funs(1, A), 0), ())

    def test_like_terms_with_functions_as_objects(self):
        for term in random_terms(3, 200, 60):
            rows = rows_of(told(term))
            self.assertEqual(size_of(term), len(rows))
            self.assertEqual(kinds_of(term), [row[0] for row in rows])
            inside = {row[3]: outer[3] for outer in rows for row in outer[2]}
            self.assertEqual([above(term, node) for node in range(len(rows))],
                             [inside.get(node) for node in range(len(rows))])
            for node, row in enumerate(rows):
                if row[0] == "fun":
                    names = tuple(own[3] for own in rows if own[0] == "name" and own[1] is row[1])
                    self.assertEqual(names_of(term, node), names)
                    self.assertEqual([fun_of(term, name) for name in names], [node] * len(names))


class WrongArgumentsTest(unittest.TestCase):

    def test_no_term(self):
        for value in ODD_VALUES:
            if value == A:
                continue
            for function in [size_of, height_of, kinds_of]:
                self.assertRaises(InvalidTerm, function, value)
            for function in [part_at, above, fun_of, names_of]:
                self.assertRaises(InvalidTerm, function, value, "no node")

    def test_no_node(self):
        for function in [part_at, above, fun_of, names_of]:
            for node in [-1, 9, 10 ** 100, True, False, None, "0", (0,), [], A]:
                self.assertRaises(InvalidNode, function, T, node)

    def test_nodes_of_other_kinds(self):
        for node in [0, 1, 8]:
            self.assertRaises(InvalidNode, fun_of, T, node)
        for node in [0, 3, 8]:
            self.assertRaises(InvalidNode, names_of, T, node)

    def test_is_term_takes_any_value(self):
        for value in ODD_VALUES:
            self.assertIsInstance(is_term(value), bool)


if __name__ == "__main__":
    unittest.main()
