"""Ways of families: [15] and [56], and what [3] promises of them."""

import random
import unittest

from sharefold.errors import InvalidFold, InvalidNumber, InvalidWay, TooMany
from sharefold.familysteps import family_step, family_way
from sharefold.familyways import is_family_way, leftmost_family, plain_way, unfolded, walked
from sharefold.folds import begun, families_of, family_at
from sharefold.steps import is_normal, leftmost
from sharefold.termtexts import read_term
from sharefold.ways import leftmost_way, walk
from tests.samples import A, HIGH, I, ODD_VALUES, W, WIDE, book_of, call, full, limit_of, random_terms

CI = call(I, A)
CP = call(W, CI)
LOOP = call(W, W)
# A term with 200 leftmost family steps and more, none too great.
LONG = read_term("$x.\\y.\\z.x z y")


def slow_walk(fold, way):
    """The folds along a way of families."""
    folds = [fold]
    for family in way:
        folds.append(family_step(folds[-1], family))
    return folds


def random_ways(seed, many, size, steps):
    """Triples of a fold with which a term begins, a way of families, and the folds along it."""
    dice = random.Random(seed)
    for term in random_terms(seed, many, size):
        way, folds = [], [begun(term)]
        while families_of(folds[-1]) and len(way) < steps:
            family = dice.choice(families_of(folds[-1]))[0]
            try:
                folds.append(family_step(folds[-1], family))
            except TooMany:
                break
            way.append(family)
        yield folds[0], tuple(way), folds


class LeftmostTest(unittest.TestCase):

    def test_leftmost_family(self):
        self.assertIsNone(leftmost_family(begun(A)))
        self.assertEqual(leftmost_family(begun(call(A, CI))), 3)
        self.assertEqual(leftmost_family((CI, (0, 2, 1, 1), book_of(3))), 2)
        for term in random_terms(61, 50, 30):
            redex = leftmost(term)
            expected = None if redex is None else family_at(begun(term), redex)
            self.assertEqual(leftmost_family(begun(term)), expected)

    def test_ends(self):
        fold = begun(CP)
        self.assertEqual(unfolded(fold, 0), ((), fold))
        self.assertEqual(unfolded(fold, 1), ((1,), family_step(fold, 1)))
        self.assertEqual(unfolded(fold, 2), unfolded(fold, 200))
        self.assertEqual(unfolded(fold, 200)[0], (1, 6))
        self.assertEqual(unfolded(fold, 200)[1][0], call(A, A))

    def test_ends_ahead_of_what_would_be_too_great(self):
        for term in [WIDE, HIGH]:
            self.assertEqual(unfolded(begun(term), 200), ((), begun(term)))
        fold = (call(I, CI), tuple(range(7)), book_of(1999))
        way, behind = unfolded(fold, 200)
        self.assertEqual((way, len(behind[2])), ((1,), 2000))
        # Each step makes words longer, until one would have more than 400 marks.
        way, behind = unfolded(begun(LOOP), 200)
        self.assertEqual(limit_of(family_step, behind, leftmost_family(behind)), 400)
        self.assertEqual((len(way), max(len(word) for word in behind[2])), (199, 399))

    def test_leftmost_each_time(self):
        for term in random_terms(62, 60, 30):
            fold = begun(term)
            way, behind = unfolded(fold, 8)
            folds = slow_walk(fold, way)
            self.assertEqual([leftmost_family(own) for own in folds[:-1]], list(way))
            self.assertEqual(folds[-1], behind)
            self.assertTrue(len(way) == 8 or leftmost_family(behind) is None)


class FamilyWaysTest(unittest.TestCase):

    def test_ways(self):
        for way in [(), (1,), (6,), (1, 6)]:
            self.assertIs(is_family_way(begun(CP), way), True, way)
        for fold, way, folds in random_ways(63, 60, 30, 8):
            self.assertIs(is_family_way(fold, way), True)
            self.assertEqual(walked(fold, way), folds[-1])
            self.assertEqual(walked(fold, way[:2]), folds[min(2, len(way))])

    def test_no_ways(self):
        for way in [(0,), (-1,), (2,), (1, 1), (1, 6, 6), (True,), (1, True), (None,), ("1",), ((1,),), [1], [], 1, None, ""]:
            self.assertIs(is_family_way(begun(CP), way), False, way)
            for function in [walked, plain_way]:
                self.assertRaises(InvalidWay, function, begun(CP), way)
        for value in ODD_VALUES:
            if value != ():
                self.assertIs(is_family_way(begun(CP), value), False, value)
                self.assertRaises(InvalidWay, walked, begun(CP), value)

    def test_200_integers_and_more(self):
        fold = begun(LONG)
        way, behind = unfolded(fold, 200)
        self.assertEqual(len(way), 200)
        self.assertIs(is_family_way(fold, way), True)
        self.assertEqual(walked(fold, way), behind)
        more = way + (leftmost_family(behind),)
        self.assertIsNone(limit_of(family_step, behind, more[-1]))
        self.assertIs(is_family_way(fold, more), False)
        for function in [walked, plain_way]:
            self.assertRaises(InvalidWay, function, fold, more)

    def test_what_is_too_great(self):
        for limit, term in [(600, WIDE), (60, HIGH)]:
            for way in [(1,), (1, None), (1, -1, "x"), (1,) * 200]:
                self.assertIs(is_family_way(begun(term), way), False)
                for function in [walked, plain_way]:
                    self.assertEqual(limit_of(function, begun(term), way), limit)
            for way in [(1,) * 201, (0, 1), (True,), [1]]:
                self.assertRaises(InvalidWay, walked, begun(term), way)
        fold = (call(I, CI), tuple(range(7)), book_of(1999))
        self.assertEqual([limit_of(walked, fold, way) for way in [(1,), (4,), (1, 4), (4, 1, None)]],
                         [None, None, 2000, 2000])
        self.assertIs(is_family_way(fold, (1, 4)), False)


class PlainWayTest(unittest.TestCase):

    def test_ways_of_the_steps(self):
        for fold, way, folds in random_ways(64, 60, 30, 6):
            expected = ()
            for ahead, family in zip(folds, way):
                expected += family_way(ahead, family)
            if len(expected) <= 200:
                self.assertEqual(plain_way(fold, way), expected)
                self.assertEqual(walk(fold[0], plain_way(fold, way)), folds[-1][0])

    def test_200_steps_and_more(self):
        # 50 redexes of one family, whose steps leave as many of one other family, and one more redex.
        term = call(full(50, LOOP), CI)
        fold = (term, (0,) * 501 + (1, 0, 0), ((0,), (1,)))
        way, _ = unfolded(fold, 4)
        self.assertEqual(len(plain_way(fold, way)), 200)
        self.assertIs(is_family_way(fold, way + (1,)), True)
        self.assertEqual(limit_of(plain_way, fold, way + (1,)), 200)
        self.assertIsNone(limit_of(walked, fold, way + (1,)))

    def test_200_steps_come_behind_all_other_errors(self):
        term = call(full(50, LOOP), CI)
        fold = (term, (0,) * 501 + (1, 0, 0), ((0,), (1,)))
        way, _ = unfolded(fold, 4)
        self.assertRaises(InvalidWay, plain_way, fold, way + (1, 1))
        # Four steps make the book full, the fifth one would make it too great.
        nearly = (term, fold[1], book_of(1992))
        way, behind = unfolded(nearly, 4)
        self.assertEqual((len(way), len(behind[2])), (4, 2000))
        self.assertEqual(limit_of(plain_way, nearly, way + (1, None)), 2000)


class PromisesTest(unittest.TestCase):

    def test_a_family_that_was_done_is_not_there_again(self):
        for fold, way, folds in random_ways(65, 150, 30, 10):
            self.assertEqual(len(set(way)), len(way))
            for place, behind in enumerate(folds):
                self.assertFalse(set(way[:place]) & {family for family, _ in families_of(behind)})

    def test_leftmost_families_come_to_the_normal_form(self):
        for term in random_terms(66, 150, 25):
            way, normal = leftmost_way(term, 60)
            if is_normal(normal):
                families, behind = unfolded(begun(term), 60)
                self.assertEqual(behind[0], normal)
                self.assertLessEqual(len(families), len(way))

    def test_no_way_of_families_has_fewer_steps(self):
        for fold, way, folds in random_ways(67, 150, 25, 60):
            if is_normal(folds[-1][0]):
                families, behind = unfolded(fold, 60)
                self.assertEqual(behind[0], folds[-1][0])
                self.assertLessEqual(len(families), len(way))


class WrongArgumentsTest(unittest.TestCase):

    def test_no_fold_comes_first(self):
        for value in ODD_VALUES + [list(begun(CI))]:
            self.assertRaises(InvalidFold, leftmost_family, value)
            for function in [unfolded, is_family_way, walked, plain_way]:
                self.assertRaises(InvalidFold, function, value, "x")

    def test_no_number(self):
        for most in [-1, 201, True, False, None, "1", (1,)]:
            self.assertRaises(InvalidNumber, unfolded, begun(CI), most)


if __name__ == "__main__":
    unittest.main()
