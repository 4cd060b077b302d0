"""Folds: [13] and [54]."""

import unittest

from sharefold.errors import InvalidFold, InvalidNode, InvalidTerm, NotRedex
from sharefold.folds import begun, families_of, family_at, is_fold, word_at
from sharefold.steps import redexes
from sharefold.terms import size_of
from tests.samples import A, B, I, ODD_VALUES, T, W, book_of, call, full, funs, random_terms

BOOK = ((0,), (1,), (0, ("over", 1), 2), (("under", 2), ("over", 0)))
FOLD = (call(I, call(I, A)), (0, 2, 1, 0, 2, 3, 3), BOOK)


class FoldsTest(unittest.TestCase):

    def test_begun(self):
        self.assertEqual(begun(A), (A, (0,), ((0,),)))
        self.assertEqual(begun(T), (T, tuple(range(9)), tuple([(node,) for node in range(9)])))
        for term in random_terms(41, 50, 60) + [funs(1, full(300))]:
            fold = begun(term)
            self.assertIs(is_fold(fold), True)
            self.assertEqual([word_at(fold, node) for node in range(size_of(term))],
                             [(node,) for node in range(size_of(term))])

    def test_folds(self):
        for fold in [FOLD, (A, (1999,), book_of(2000)), (A, (0,), ((1,), (2,))), (call(A, A), (1, 1, 0), ((5,), (7,)))]:
            self.assertIs(is_fold(fold), True)

    def test_no_folds(self):
        term, words, book = FOLD
        for value in [list(FOLD), (term, list(words), book), (term, words, list(book)), (term, words[:-1], book),
                      (term, words + (0,), book), (term, words[:-1] + (4,), book), (term, words[:-1] + (-1,), book),
                      (term, words[:-1] + (True,), book), (term, words[:-1] + (None,), book), (None, words, book),
                      (("name", 0), (0,), book), (["letter", "A"], (0,), book), (term, words, book + ((0,),)),
                      (term, words, ()), (A, (), ()), (term, words), (term, words, book, ()), (A, (0,), book_of(2001)),
                      (A, (0,), ([0],)), (A, 0, ((0,),)), (A, "0", ((0,),))]:
            self.assertIs(is_fold(value), False)
        for value in ODD_VALUES:
            self.assertIs(is_fold(value), False)
            self.assertIs(is_fold((A, (0,), value)), value == ((0,),))
            self.assertIs(is_fold((A, value, ((0,),))), value == (0,) and not isinstance(value[0], bool))
            self.assertIs(is_fold((value, (0,), ((0,),))), value == A)

    def test_words_and_families(self):
        self.assertEqual([word_at(FOLD, node) for node in [0, 1, 2, 5]], [(0,), BOOK[2], (1,), BOOK[3]])
        self.assertEqual([family_at(FOLD, 0), family_at(FOLD, 3)], [2, 2])
        self.assertEqual(families_of(FOLD), ((2, (0, 3)),))
        self.assertEqual(families_of(begun(A)), ())

    def test_families_ascend(self):
        term = call(call(I, A), call(I, A), call(I, A))
        self.assertEqual(redexes(term), [2, 6, 10])
        words = tuple([{3: 9, 7: 4, 11: 9}.get(node, 0) for node in range(14)])
        self.assertEqual(families_of((term, words, book_of(10))), ((4, (6,)), (9, (2, 10))))

    def test_families_of_begun_terms(self):
        for term in random_terms(42, 50, 40):
            families = families_of(begun(term))
            self.assertEqual(families, tuple([(node + 1, (node,)) for node in redexes(term)]))
            self.assertEqual([family_at(begun(term), node) for node in redexes(term)],
                             [family for family, _ in families])


class WrongArgumentsTest(unittest.TestCase):

    def test_no_term(self):
        for value in ODD_VALUES:
            if value != A:
                self.assertRaises(InvalidTerm, begun, value)

    def test_no_fold_comes_first(self):
        for value in ODD_VALUES + [list(FOLD)]:
            self.assertRaises(InvalidFold, families_of, value)
            for function in [word_at, family_at]:
                self.assertRaises(InvalidFold, function, value, -1)

    def test_no_node(self):
        for function in [word_at, family_at]:
            for node in [-1, 7, True, False, None, "0", (0,), 10 ** 100]:
                self.assertRaises(InvalidNode, function, FOLD, node)

    def test_no_redex(self):
        for node in [1, 2, 4, 6]:
            self.assertRaises(NotRedex, family_at, FOLD, node)
        self.assertRaises(NotRedex, family_at, begun(call(B, W)), 0)


if __name__ == "__main__":
    unittest.main()
