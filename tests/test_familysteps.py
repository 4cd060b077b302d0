"""Marked steps and family steps: [14] and [55], and what [3] promises of families."""

import random
import unittest

from sharefold.errors import InvalidFamily, InvalidFold, InvalidNode, InvalidWay, NotRedex, TooMany
from sharefold.familysteps import family_step, family_way, marked_step, marked_way
from sharefold.folds import begun, families_of, family_at, is_fold
from sharefold.steps import redexes
from sharefold.terms import size_of
from sharefold.wordbooks import same_word
from tests.fold_oracle import slow_steps
from tests.samples import A, B, HIGH, I, ODD_VALUES, T, W, WIDE, book_of, call, funs, limit_of, random_terms

CI = call(I, A)


def long_word(many, first):
    """A word of so many marks, unlike those of other first ones."""
    return (first,) * many


class MarkedStepTest(unittest.TestCase):

    def test_words_of_what_comes(self):
        # (\x.x B x) A: what comes is the body, with two copies of the argument.
        term = call(funs(1, call(("name", 0), B, ("name", 0))), call(A, A))
        behind, words, book = marked_step(begun(term), 0)
        self.assertEqual(behind, call(call(A, A), B, call(A, A)))
        self.assertEqual(book[:10], tuple([(node,) for node in range(10)]))
        self.assertEqual([book[word] for word in words],
                         [(0, ("over", 1), 2), (3,), (4, ("under", 1), 7), (8,), (9,), (5,), (6, ("under", 1), 7), (8,),
                          (9,)])
        self.assertEqual(book[10:], ((0, ("over", 1), 2), (4, ("under", 1), 7), (6, ("under", 1), 7)))

    def test_body_is_the_own_name_alone(self):
        self.assertEqual(marked_step(begun(call(A, CI)), 2)[1:],
                         ((0, 1, 6), book_of(6) + ((2, ("over", 3), 4, ("under", 3), 5),)))

    def test_body_is_another_name(self):
        term = funs(1, call(funs(1, ("name", 1)), A))
        self.assertEqual(marked_step(begun(term), 1)[1:], ((0, 5), book_of(5) + ((1, ("over", 2), 3),)))

    def test_words_that_are_in_the_book(self):
        book = ((0,), (1,), (0, ("over", 1), 0, ("under", 1), 0))
        self.assertEqual(marked_step((CI, (0, 1, 0, 0), book), 0), (A, (2,), book))

    def test_the_book_keeps_words_of_what_is_gone(self):
        self.assertEqual(marked_step(begun(call(funs(1, B), T)), 0)[1:], ((12,), book_of(12) + ((0, ("over", 1), 2),)))

    def test_like_marks_on_nodes(self):
        for term in random_terms(51, 60, 30):
            fold = begun(term)
            for _ in range(4):
                if not families_of(fold):
                    break
                for node in redexes(fold[0]):
                    self.assertEqual(marked_step(fold, node), slow_steps(fold, (node,), family_at(fold, node)))
                fold = marked_step(fold, redexes(fold[0])[-1])
                self.assertIs(is_fold(fold), True)


class FamilyStepTest(unittest.TestCase):

    def test_the_greatest_node_first(self):
        fold = (call(I, CI), (0, 1, 2, 3, 1, 4, 5), book_of(6))
        self.assertEqual(family_way(fold, 1), (3, 0))
        self.assertEqual(family_step(fold, 1)[0], A)
        # The inner one's word is made first, and is marked by the family's index in the book ahead.
        self.assertEqual(family_step(fold, 1)[2][6:],
                         ((0, ("over", 1), 2, ("under", 1), 3, ("over", 1), 4, ("under", 1), 5),))

    def test_words_between_are_not_in_the_book(self):
        fold = (call(funs(1, B), call(A, CI)), (0, 1, 2, 3, 4, 5, 1, 6, 7), book_of(8))
        self.assertEqual(family_way(fold, 1), (5, 0))
        self.assertEqual(family_step(fold, 1), (B, (8,), book_of(8) + ((0, ("over", 1), 2),)))

    def test_like_marks_on_nodes(self):
        dice = random.Random(52)
        for term in random_terms(52, 100, 30):
            fold = begun(term)
            for _ in range(5):
                if not families_of(fold):
                    break
                for family, lot in families_of(fold):
                    self.assertEqual(family_way(fold, family), lot[::-1])
                    self.assertEqual(family_step(fold, family), slow_steps(fold, lot[::-1], family))
                fold = family_step(fold, dice.choice(families_of(fold))[0])

    def test_any_words(self):
        dice = random.Random(53)
        for term in random_terms(53, 60, 25):
            fold = (term, tuple([dice.randrange(3) for _ in range(size_of(term))]), ((7,), (8,), (9, ("over", 0))))
            for family, lot in families_of(fold):
                self.assertEqual(family_way(fold, family), lot[::-1])
                self.assertEqual(limit_of(family_step, fold, family), limit_of(slow_steps, fold, lot[::-1], family))
                if limit_of(family_step, fold, family) is None:
                    self.assertEqual(family_step(fold, family), slow_steps(fold, lot[::-1], family))

    def test_done_in_any_order_with_all_that_is_left(self):
        dice = random.Random(54)
        for term in random_terms(54, 100, 25):
            fold = begun(term)
            for _ in range(6):
                families = dict(families_of(fold))
                if not families:
                    break
                family = dice.choice(list(families))
                behind = family_step(fold, family)
                other = fold
                while dict(families_of(other)).get(family):
                    other = marked_step(other, dice.choice(dict(families_of(other))[family]))
                self.assertEqual(other[0], behind[0])
                for one, two in zip(other[1], behind[1]):
                    self.assertTrue(same_word(other[2], one, behind[2], two))
                fold = behind


class TooGreatTest(unittest.TestCase):

    def test_plain_steps(self):
        for function in [marked_step, family_step]:
            for limit, term in [(600, WIDE), (60, HIGH)]:
                place = 0 if function == marked_step else 1
                self.assertEqual(limit_of(function, begun(term), place), limit)
                self.assertEqual(family_way(begun(term), 1), (0,))

    def test_words_of_400_marks_and_401(self):
        for many, limit in [(98, None), (99, 400)]:
            book = (long_word(200, 0), (1,), long_word(100, 2), long_word(many, 3))
            fold = (CI, (0, 1, 2, 3), book)
            self.assertEqual(limit_of(marked_step, fold, 0), limit)
            self.assertEqual(limit_of(family_step, fold, 1), limit)
            self.assertEqual(limit_of(marked_way, fold, (0,)), limit)
        for many, limit in [(199, None), (200, 400)]:
            fold = (call(funs(1, B), A), (0, 1, 2, 1), (long_word(200, 0), (1,), long_word(many, 2)))
            self.assertEqual(limit_of(marked_step, fold, 0), limit)
            fold = (call(W, B), (1, 1, 1, 0, 1, 2), (long_word(200, 0), (1,), long_word(many, 2)))
            self.assertEqual(limit_of(marked_step, fold, 0), limit)

    def test_words_of_what_is_gone_do_not_count(self):
        fold = (call(funs(1, B), A), (0, 0, 0, 1), ((0,), long_word(400, 1)))
        self.assertIsNone(limit_of(marked_step, fold, 0))

    def test_words_between_count(self):
        fold = (call(funs(1, B), CI), (0, 0, 0, 1, 0, 1, 1), ((0,), long_word(200, 1)))
        self.assertEqual(family_way(fold, 0), (3, 0))
        self.assertEqual(limit_of(family_step, fold, 0), 400)

    def test_books_of_2000_words_and_one_more(self):
        self.assertEqual(len(marked_step((CI, (0, 1, 2, 3), book_of(1999)), 0)[2]), 2000)
        for function in [marked_step, family_step]:
            place = 0 if function == marked_step else 1
            self.assertEqual(limit_of(function, (CI, (0, 1, 2, 3), book_of(2000)), place), 2000)
            twice = (call(W, A), (0, 1, 2, 3, 4, 5), book_of(1998))
            self.assertEqual(limit_of(function, twice, place), 2000)
        book = book_of(1999) + ((0, ("over", 1), 2, ("under", 1), 3),)
        self.assertEqual(marked_step((CI, (0, 1, 2, 3), book), 0), (A, (1999,), book))

    def test_the_plain_step_comes_ahead_of_its_words(self):
        term = WIDE
        words = (0,) * size_of(term)
        self.assertEqual(limit_of(marked_step, (term, words, (long_word(400, 0),)), 0), 600)
        self.assertEqual(limit_of(marked_step, (HIGH, (0,) * size_of(HIGH), (long_word(400, 0),)), 0), 60)

    def test_words_come_ahead_of_the_book(self):
        book = (long_word(400, 0),) + book_of(1999)[:1999]
        self.assertEqual(len(set(book)), 2000)
        self.assertEqual(limit_of(marked_step, (CI, (0, 1, 2, 3), book), 0), 400)

    def test_the_order_of_the_steps(self):
        wide_words = (1,) * size_of(WIDE)
        long = (CI, (2, 1, 2, 2))
        book = ((0,), (1,), long_word(200, 2))
        # The greatest redex is done first: here that with long words, there the wide one.
        first = (call(WIDE, long[0]), (0,) + wide_words + long[1], book)
        other = (call(long[0], WIDE), (0,) + long[1] + wide_words, book)
        self.assertEqual([len(family_way(fold, 1)) for fold in [first, other]], [2, 2])
        self.assertEqual([limit_of(family_step, fold, 1) for fold in [first, other]], [400, 600])


class MarkedWayTest(unittest.TestCase):

    def test_one_by_one(self):
        term = call(W, CI)
        fold = begun(term)
        self.assertEqual(marked_way(fold, ()), fold)
        self.assertEqual(marked_way(fold, (0, 5, 1)),
                         marked_step(marked_step(marked_step(fold, 0), 5), 1))
        # Each step's words come into the book, those that are gone in the end too.
        self.assertEqual(marked_way(begun(call(I, CI)), (0, 0))[2][7:],
                         ((0, ("over", 1), 2, ("under", 1), 3),
                          (0, ("over", 1), 2, ("under", 1), 3, ("over", 4), 5, ("under", 4), 6)))

    def test_no_ways(self):
        for way in [(1,), (-1,), (True,), (False,), (None,), ("0",), [0], [], 0, None, "", (0, 0, 0), (0,) * 201]:
            self.assertRaises(InvalidWay, marked_way, begun(call(I, CI)), way)

    def test_what_is_too_great(self):
        for limit, term in [(600, WIDE), (60, HIGH)]:
            for way in [(0,), (0, None), (0, 0, -1), (0,) * 200]:
                self.assertEqual(limit_of(marked_way, begun(term), way), limit)
            self.assertRaises(InvalidWay, marked_way, begun(term), (0,) * 201)
            self.assertRaises(InvalidWay, marked_way, begun(term), (1, 0))
            self.assertRaises(InvalidWay, marked_way, begun(term), (False,))
        fold = (call(I, CI), (0, 1, 2, 3, 4, 5, 6), book_of(1999))
        self.assertEqual(limit_of(marked_way, fold, (0,)), None)
        self.assertEqual(limit_of(marked_way, fold, (0, 0)), 2000)
        self.assertEqual(limit_of(marked_way, fold, (0, 0, "x")), 2000)


class WrongArgumentsTest(unittest.TestCase):

    def test_no_fold_comes_first(self):
        for value in ODD_VALUES + [(CI, (0, 1, 2, 4), book_of(4)), list(begun(CI))]:
            for function in [marked_step, family_step, family_way, marked_way]:
                self.assertRaises(InvalidFold, function, value, None)

    def test_no_node(self):
        for node in [-1, 4, True, False, None, "0", (0,)]:
            self.assertRaises(InvalidNode, marked_step, begun(CI), node)
        for node in [1, 2, 3]:
            self.assertRaises(NotRedex, marked_step, begun(CI), node)

    def test_no_family(self):
        for function in [family_step, family_way]:
            for family in [0, 2, 3, 4, -1, True, False, None, "1", (1,), 10 ** 100]:
                self.assertRaises(InvalidFamily, function, begun(CI), family)
            self.assertRaises(InvalidFamily, function, begun(A), 0)


if __name__ == "__main__":
    unittest.main()
