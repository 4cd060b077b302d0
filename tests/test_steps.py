"""Redexes and plain steps: [5] and [46]."""

import unittest

from sharefold.errors import InvalidNode, InvalidTerm, NotRedex, TooMany
from sharefold.steps import is_normal, leftmost, origins, redexes, step
from sharefold.terms import height_of, is_term, size_of
from tests.samples import A, B, I, ODD_VALUES, T, W, call, calls, full, funs, random_terms, slow_step


class RedexesTest(unittest.TestCase):

    def test_redexes(self):
        self.assertEqual([redexes(term) for term in [A, I, W, call(A, I), call(I, I, I)]], [[], [], [], [], [1]])
        self.assertEqual(redexes(call(funs(1, call(I, ("name", 0))), call(W, W))), [0, 2, 6])

    def test_leftmost_and_normal(self):
        self.assertEqual([leftmost(A), leftmost(call(A, call(I, A))), leftmost(call(I, call(I, A)))], [None, 2, 0])
        self.assertEqual([is_normal(term) for term in [A, W, call(A, I), call(I, A), funs(1, call(I, A))]],
                         [True, True, True, False, False])

    def test_every_list_is_new(self):
        found = redexes(T)
        found.append(9)
        self.assertEqual(redexes(T), [0, 5])
        self.assertIsInstance(origins(T, 0), list)


class StepTest(unittest.TestCase):

    def test_names_of_functions_between(self):
        # (\x.\y.x) y under a function y: the name moves into one function more.
        self.assertEqual(step(funs(1, call(funs(2, ("name", 1)), ("name", 0))), 1), funs(2, ("name", 1)))
        # A name of a function around the redex, within the body, has one function less ahead.
        self.assertEqual(step(funs(1, call(funs(1, call(("name", 1), ("name", 0))), A)), 1),
                         funs(1, call(("name", 0), A)))
        # The argument's own functions stay with their names.
        self.assertEqual(step(funs(1, call(funs(2, ("name", 1)), funs(1, call(("name", 0), ("name", 1))))), 1),
                         funs(3, call(("name", 0), ("name", 2))))

    def test_function_without_names(self):
        self.assertEqual(step(call(funs(1, B), T), 0), B)
        self.assertEqual(origins(call(funs(1, B), T), 0), [2])

    def test_body_is_the_own_name(self):
        self.assertEqual(step(call(I, T), 0), T)
        self.assertEqual(origins(call(I, T), 0), list(range(3, 12)))

    def test_within_a_term(self):
        term = call(A, call(I, B), A)
        self.assertEqual(step(term, 3), call(A, B, A))
        self.assertEqual(origins(term, 3), [0, 1, 2, 6, 7])

    def test_like_steps_with_functions_as_objects(self):
        for term in random_terms(4, 500, 50):
            for node in redexes(term):
                behind, copies = slow_step(term, node)
                self.assertEqual(step(term, node), behind)
                self.assertEqual(origins(term, node), copies)
                self.assertTrue(is_term(behind))


class TooGreatTest(unittest.TestCase):

    def test_nodes_just_within_and_just_beyond(self):
        # 20 copies of 29 nodes between 19 calls make 599 nodes.
        term = call(funs(1, full(20, ("name", 0))), full(15))
        self.assertEqual(size_of(step(term, 0)), 599)
        self.assertEqual(size_of(step(funs(1, term), 1)), 600)
        for function in [step, origins]:
            with self.assertRaises(TooMany) as caught:
                function(funs(2, term), 2)
            self.assertEqual(caught.exception.limit, 600)

    def test_many_more_nodes(self):
        with self.assertRaises(TooMany) as caught:
            step(call(funs(1, full(140, ("name", 0))), full(150)), 0)
        self.assertEqual(caught.exception.limit, 600)

    def test_height_just_within_and_just_beyond(self):
        self.assertEqual(height_of(step(call(funs(1, calls(30, ("name", 0))), calls(29, B)), 0)), 60)
        for function in [step, origins]:
            with self.assertRaises(TooMany) as caught:
                function(call(funs(1, calls(30, ("name", 0))), calls(30, B)), 0)
            self.assertEqual(caught.exception.limit, 60)

    def test_nodes_come_ahead_of_height(self):
        term = call(funs(1, call(full(20, ("name", 0)), calls(40, ("name", 0)))), calls(40, B))
        with self.assertRaises(TooMany) as caught:
            step(term, 0)
        self.assertEqual(caught.exception.limit, 600)

    def test_names_of_functions_outside_have_no_copies(self):
        body = full(20, ("name", 1))
        self.assertEqual(step(funs(1, call(funs(1, body), full(40))), 1), funs(1, full(20, ("name", 0))))

    def test_what_is_left_out_does_not_count(self):
        self.assertEqual(step(call(funs(1, B), calls(57, full(2))), 0), B)


class WrongArgumentsTest(unittest.TestCase):

    def test_no_term(self):
        for value in ODD_VALUES:
            if value == A:
                continue
            for function in [redexes, is_normal, leftmost]:
                self.assertRaises(InvalidTerm, function, value)
            for function in [step, origins]:
                self.assertRaises(InvalidTerm, function, value, -1)

    def test_no_node(self):
        for function in [step, origins]:
            for node in [-1, 9, True, False, None, "0", (0,), [0]]:
                self.assertRaises(InvalidNode, function, T, node)

    def test_no_redex(self):
        for function in [step, origins]:
            for node in [1, 2, 3, 8]:
                self.assertRaises(NotRedex, function, T, node)
            self.assertRaises(NotRedex, function, call(A, I), 0)


if __name__ == "__main__":
    unittest.main()
