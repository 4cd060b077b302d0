"""Where in the text written of a term its nodes stand: [49]."""

import unittest

from sharefold.errors import InvalidNumber, InvalidTerm
from sharefold.places import node_at, places_of, redex_marks
from sharefold.steps import redexes
from sharefold.terms import part_at, size_of
from sharefold.termtexts import read_term, write_term
from tests.samples import A, I, ODD_VALUES, T, funs, random_terms


class PlacesTest(unittest.TestCase):

    def test_without_brackets_around(self):
        term = read_term("A (B A) (\\x.x)")
        self.assertEqual(write_term(term), "A (B A) (\\a.a)")
        self.assertEqual(places_of(term), [(0, 14), (0, 7), (0, 1), (3, 6), (3, 4), (5, 6), (9, 13), (12, 13)])

    def test_words_of_two_characters(self):
        text = write_term(funs(27, ("name", 0)))
        self.assertEqual(text[-6:], "\\aa.aa")
        self.assertEqual(places_of(funs(27, ("name", 0)))[-2:], [(len(text) - 6, len(text)), (len(text) - 2, len(text))])

    def test_parts_without_names_from_outside(self):
        for term in random_terms(11, 100, 40):
            text, places = write_term(term), places_of(term)
            self.assertEqual(len(places), size_of(term))
            self.assertEqual(places[0], (0, len(text)))
            for node, (begin, end) in enumerate(places):
                own = part_at(term, node)
                self.assertTrue(begin < end)
                if own[0] == "letter":
                    self.assertEqual(text[begin:end], own[1])
                elif own[0] == "name":
                    self.assertTrue(text[begin:end].islower())
                elif own[0] == "fun":
                    self.assertEqual(text[begin], "\\")
                    self.assertEqual(end, places[node + 1][1])
                else:
                    second = node + 1 + size_of_part(own[1])
                    bracket = text[places[node + 1][0] - 1] == "(" and own[1][0] == "fun"
                    self.assertEqual(begin, places[node + 1][0] - bracket)
                    self.assertEqual(end, places[second][1] + (own[2][0] in ("fun", "call")))
                    self.assertIn(text[places[node + 1][1]:places[second][0]], [" ", ") ", " (", ") ("])

    def test_node_at(self):
        term = read_term("A (B A) (\\x.x)")
        self.assertEqual([node_at(term, place) for place in range(14)],
                         [2, 1, 1, 4, 3, 5, 1, 0, 0, 6, 6, 6, 7, 0])

    def test_node_at_is_the_greatest_in_whose_text_it_is(self):
        for term in random_terms(12, 60, 25):
            places = places_of(term)
            for place in range(len(write_term(term))):
                inside = [node for node, (begin, end) in enumerate(places) if begin <= place < end]
                self.assertEqual(node_at(term, place), max(inside))

    def test_redex_marks(self):
        self.assertEqual(redex_marks(T), "^         ^          "[:len(write_term(T))])
        self.assertEqual(write_term(T).index("((") + 1, redex_marks(T).rindex("^"))
        self.assertEqual(redex_marks(A), " ")
        self.assertEqual(redex_marks(I), "    ")
        self.assertEqual(redex_marks(read_term("(\\x.x) A B")), "^         ")
        self.assertEqual(redex_marks(read_term("A ((\\x.x) B)")), "   ^        ")

    def test_a_mark_for_each_redex(self):
        for term in random_terms(13, 100, 40):
            marks, places = redex_marks(term), places_of(term)
            begins = {places[node][0] for node in redexes(term)}
            self.assertEqual(marks, "".join("^" if place in begins else " " for place in range(places[0][1])))


def size_of_part(part):
    return 1 + sum(size_of_part(own) for own in part[1:] if isinstance(own, tuple))


class WrongArgumentsTest(unittest.TestCase):

    def test_no_term(self):
        for value in ODD_VALUES:
            if value != A:
                self.assertRaises(InvalidTerm, places_of, value)
                self.assertRaises(InvalidTerm, redex_marks, value)
                self.assertRaises(InvalidTerm, node_at, value, -1)

    def test_no_index(self):
        for place in [-1, len(write_term(T)), True, False, None, "0", (0,), 10 ** 100]:
            self.assertRaises(InvalidNumber, node_at, T, place)
        self.assertEqual(node_at(T, len(write_term(T)) - 1), 0)


if __name__ == "__main__":
    unittest.main()
