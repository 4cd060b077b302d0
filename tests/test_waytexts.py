"""Rows of nodes and pages: [11] and [50], and what [3] promises of pages."""

import random
import unittest

from sharefold.errors import InvalidTerm, InvalidWay, TooMany
from sharefold.steps import redexes, step
from sharefold.terms import is_term
from sharefold.termtexts import read_term, write_term
from sharefold.texterrors import BadLine, BadText, InvalidText, NotWritable
from sharefold.ways import terms_along
from sharefold.waytexts import read_row, read_way, write_row, write_way
from tests.samples import A, B, HIGH, I, ODD_VALUES, T, W, call, full, funs, random_terms



class RowsTest(unittest.TestCase):

    def test_rows(self):
        for row, text in [((), "[]"), ((0,), "[0]"), ((599, 0, 10), "[599,0,10]"), ((7, 7), "[7,7]")]:
            self.assertEqual(write_row(row), text)
            self.assertEqual(read_row(text), row)

    def test_all_nodes(self):
        for node in range(600):
            self.assertEqual(read_row(write_row((node,))), (node,))

    def test_200_integers_and_more(self):
        row = (599,) * 200
        self.assertEqual(read_row(write_row(row)), row)
        self.assertRaises(NotWritable, write_row, row + (0,))
        self.assert_bad(800, "[" + "599," * 199 + "599,0]")
        self.assert_bad(400, "[" + "1," * 199 + "1,")

    def test_not_writable(self):
        for row in [[0], [], (600,), (-1,), (True,), (0, False), (None,), ("0",), ((0,),), 0, "", None, (0, 10 ** 100)]:
            self.assertRaises(NotWritable, write_row, row)
        for value in ODD_VALUES:
            if value not in [(), (0,)]:
                self.assertRaises(NotWritable, write_row, value)

    def assert_bad(self, place, text):
        with self.assertRaises(BadText) as caught:
            read_row(text)
        self.assertEqual(caught.exception.place, place, text)

    def test_where_texts_are_refused(self):
        for place, text in [(0, ""), (0, "0"), (0, " []"), (1, "["), (1, "[,"), (1, "[ ]"), (1, "[-1]"), (2, "[0"),
                            (2, "[01]"), (2, "[00]"), (3, "[0,"), (3, "[0,]"), (3, "[0,,"), (3, "[600]"), (3, "[601]"),
                            (4, "[5990]"), (3, "[999]"), (2, "[]]"), (2, "[] "), (3, "[0]\n"), (3, "[0, 1]"),
                            (2, "[0 ]"), (4, "[1,01]"), (3, "[10"), (2, "[1.0]"), (1, "[[0]]"), (1, "[a]")]:
            self.assert_bad(place, text)

    def test_no_text(self):
        for value in ODD_VALUES + ["[" + " " * 2000 + "]"]:
            if not isinstance(value, str) or len(value) > 2000:
                self.assertRaises(InvalidText, read_row, value)
                self.assertRaises(InvalidText, read_way, value)


class WriteWayTest(unittest.TestCase):

    def test_pages(self):
        self.assertEqual(write_way(A, ()), "A\n")
        self.assertEqual(write_way(T, (5, 0)), "(\\a.a a) ((\\a.a) A)\n5: (\\a.a a) A\n0: A A\n")
        self.assertEqual(write_way(call(A, A, A, A, A, A, A, call(I, B)), (14,)),
                         "A A A A A A A ((\\a.a) B)\n14: A A A A A A A B\n")

    def test_errors(self):
        for value in ODD_VALUES:
            if value != A:
                self.assertRaises(InvalidTerm, write_way, value, None)
            if value not in [(), (0,)]:
                self.assertRaises(InvalidWay, write_way, T, value)
        with self.assertRaises(TooMany) as caught:
            write_way(HIGH, (0, None))
        self.assertEqual(caught.exception.limit, 60)

    def test_written_pages_are_read_as_the_way(self):
        dice = random.Random(14)
        for term in random_terms(14, 100, 25):
            way, last = [], term
            while redexes(last) and len(way) < 6:
                way.append(dice.choice(redexes(last)))
                last = step(last, way[-1])
            page = write_way(term, tuple(way))
            lines = page.split("\n")
            terms = terms_along(term, tuple(way))
            self.assertEqual(lines, [write_term(term)] + ["%d: %s" % (node, write_term(own))
                                                          for node, own in zip(way, terms[1:])] + [""])
            if len(page) <= 2000:
                self.assertEqual(read_way(page), (term, tuple(way)))

    def test_200_lines(self):
        loop = call(W, W)
        page = write_way(loop, (0,) * 200)
        self.assertEqual(page.count("\n"), 201)
        self.assertTrue(page.endswith("0: (\\a.a a) (\\a.a a)\n"))


class ReadWayTest(unittest.TestCase):

    def assert_bad(self, place, text):
        with self.assertRaises(BadText) as caught:
            read_way(text)
        self.assertEqual(caught.exception.place, place, text)

    def assert_bad_line(self, index, text):
        with self.assertRaises(BadLine) as caught:
            read_way(text)
        self.assertEqual(caught.exception.index, index, text)

    def test_pages(self):
        self.assertEqual(read_way("A\n"), (A, ()))
        self.assertEqual(read_way(" ( A ) \n"), (A, ()))
        self.assertEqual(read_way("(\\x.x x) ((\\y.y) A)\n5: (\\z.z z)A\n0:   A(A)\n"), (T, (5, 0)))

    def test_what_is_read_is_a_way(self):
        term, way = read_way("(\\x.x x) \\x.x\n0: (\\x.x) \\y.y\n0: \\y.y\n")
        self.assertEqual(terms_along(term, way)[1:], [call(I, I), I])

    def test_where_texts_are_refused(self):
        for place, text in [(0, ""), (0, "\n"), (1, "A"), (1, "A)\n"), (2, "A\n\n"), (2, "A\nB"), (2, "A\n:"),
                            (2, "A\n 0: A\n"), (3, "A\n0"), (3, "A\n00: A\n"), (3, "A\n0 : A\n"), (4, "A\n0:A\n"),
                            (4, "A\n0:"), (5, "A\n0: "), (5, "A\n0: \n"), (6, "A\n0: A"), (4, "A\n600: A\n"),
                            (5, "A\n5990: A\n"), (8, "A\n0: \\x.y\n"), (5, "\\ab.a\n"), (4, "\\x.x"), (5, "\\x.(x\n"),
                            (7, "A\n0: A\n\n"), (4, "A\n0:\n"), (5, "A\n0: 0\n")]:
            self.assert_bad(place, text)

    def test_functions_end_with_their_lines(self):
        self.assert_bad(8, "\\x.x\n0: x\n")

    def test_texts_are_refused_ahead_of_wrong_lines(self):
        self.assert_bad(11, "A\n0: A\n0: A")

    def test_200_lines_and_one_more(self):
        page = "A\n" + "0: A\n" * 200
        self.assert_bad_line(1, page)
        self.assert_bad(len(page), page + "0: A\n")

    def test_lines_whose_terms_are_too_great(self):
        self.assert_bad_line(0, "A" * 301 + "\n")
        self.assert_bad_line(0, "A" * 61 + "\n0: B\n")
        self.assert_bad_line(1, "(\\x.x) A\n0: " + "A" * 61 + "\n")
        self.assert_bad_line(2, "(\\x.x) ((\\x.x) A)\n0: (\\x.x) A\n0: " + "A" * 301 + "\n")
        self.assertEqual(read_way("A" * 60 + "\n"), (call(*[A] * 60), ()))
        low = funs(1, full(300))
        self.assertEqual(read_way(write_term(low) + "\n"), (low, ()))
        self.assert_bad_line(0, "\\z." + write_term(low) + "\n")
        self.assert_bad_line(1, "(\\x.x) A\n0: \\z." + write_term(low) + "\n")

    def test_lines_without_a_redex(self):
        self.assert_bad_line(1, "A\n0: A\n")
        self.assert_bad_line(1, "(\\x.x) A\n1: A\n")
        self.assert_bad_line(1, "(\\x.x) A\n4: A\n")
        self.assert_bad_line(1, "(\\x.x) A\n599: A\n")
        self.assert_bad_line(2, "(\\x.x) A\n0: A\n0: A\n")

    def test_lines_with_another_term(self):
        self.assert_bad_line(1, "(\\x.x) A\n0: B\n")
        self.assert_bad_line(1, "(\\x.x) A\n0: B\n7: A\n")
        self.assert_bad_line(2, "(\\x.x) ((\\x.x) A)\n0: (\\x.x) A\n0: (\\x.x) A\n")

    def test_lines_whose_step_is_too_great(self):
        text = write_term(HIGH)
        self.assert_bad_line(1, text + "\n0: A\n")
        wide = "(\\x." + "x" + " x" * 9 + ") (" + "A" * 59 + ")"
        self.assertTrue(is_term(read_term(wide)))
        self.assert_bad_line(1, wide + "\n0: A\n")


if __name__ == "__main__":
    unittest.main()
