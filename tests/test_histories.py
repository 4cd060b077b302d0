"""Histories of families: [57], and what [3] promises of the words of families."""

import random
import unittest

from sharefold.errors import InvalidFamily, InvalidFold, InvalidNode, InvalidTerm, InvalidWay, TooMany
from sharefold.familysteps import family_step, marked_way
from sharefold.familyways import unfolded, walked
from sharefold.folds import begun, families_of, family_at
from sharefold.histories import again, history_of, relatives
from sharefold.steps import redexes, step
from sharefold.termtexts import read_term
from sharefold.wordbooks import needs_of, same_word
from tests.samples import A, B, HIGH, I, ODD_VALUES, T, W, WIDE, book_of, call, limit_of, random_terms

CI = call(I, A)
CP = call(W, CI)


def random_way(dice, term, most):
    """A way of families of the fold with which a term begins, and the fold behind it."""
    way, fold = [], begun(term)
    while families_of(fold) and len(way) < most:
        family = dice.choice(families_of(fold))[0]
        try:
            fold = family_step(fold, family)
        except TooMany:
            break
        way.append(family)
    return tuple(way), fold


class HistoryTest(unittest.TestCase):

    def test_needs_of_the_family(self):
        fold = (CI, (0, 3, 1, 1), ((0,), (1,), (0, ("over", 1), 2), (("under", 2), ("over", 0))))
        self.assertEqual(history_of(fold, 3), (0, 1, 2))
        self.assertEqual(history_of(begun(CI), 1), ())

    def test_what_is_needed_was_done_ahead(self):
        dice = random.Random(71)
        several = 0
        for term in random_terms(71, 400, 50):
            way, fold = random_way(dice, term, 8)
            for family, _ in families_of(fold):
                needs = history_of(fold, family)
                self.assertEqual(needs, needs_of(fold[2], family))
                self.assertTrue(set(needs) <= set(way), (term, way, family))
                several += len(needs) > 1
        self.assertGreater(several, 10)


class AgainTest(unittest.TestCase):

    def test_what_is_not_needed_is_left_out(self):
        # (\\x.x A) \\y.y makes the redex (\\y.y) A; the other redex has nothing to do with it.
        term = read_term("B ((\\x.x A) \\y.y) ((\\z.z) B)")
        first, other = [family for family, _ in families_of(begun(term))]
        behind = walked(begun(term), (other, first))
        made = families_of(behind)[0][0]
        self.assertEqual(again(term, (other, first), made), ((first,), (3,)))
        self.assertEqual(again(term, (first, other), families_of(walked(begun(term), (first, other)))[0][0]),
                         ((first,), (3,)))
        self.assertEqual(again(term, (other,), first), ((), (3,)))

    def test_families_are_told_by_like_words(self):
        # Behind another step ahead the words that are made have other indices.
        term = read_term("(\\w.w) A ((\\x.x A) \\y.\\z.z y B)")
        way, fold = unfolded(begun(term), 9)
        family = families_of(walked(begun(term), way[:2]))[0][0]
        steps, lot = again(term, way[:2], family)
        self.assertEqual(len(steps), 1)
        behind = walked(begun(term), steps)
        like = family_at(behind, lot[0])
        self.assertNotEqual(like, family)
        self.assertTrue(same_word(behind[2], like, walked(begun(term), way[:2])[2], family))

    def test_doing_this_alone_brings_the_family(self):
        dice = random.Random(72)
        less = 0
        for term in random_terms(72, 150, 40):
            way, fold = random_way(dice, term, 8)
            for family, _ in families_of(fold):
                if limit_of(again, term, way, family) is not None:
                    continue
                steps, lot = again(term, way, family)
                needs = history_of(fold, family)
                self.assertEqual(len(steps), len([own for own in way if own in needs]))
                behind = walked(begun(term), steps)
                like = [own for own, found in families_of(behind) if found == lot]
                self.assertEqual(len(like), 1)
                self.assertTrue(same_word(behind[2], like[0], fold[2], family))
                numbers = [own for own in way if own in needs]
                partial, whole = begun(term), begun(term)
                for own in way:
                    if own in numbers:
                        place = steps[numbers.index(own)]
                        self.assertTrue(same_word(partial[2], place, whole[2], own))
                        partial = family_step(partial, place)
                    whole = family_step(whole, own)
                less += len(steps) < len(way)
        self.assertGreater(less, 20)

    def test_too_great_at_last(self):
        # The step that makes the redex of \\y copies what the other step has made small; done alone, it copies all.
        great = "A" * 50 + " (" + "A" * 50 + ")"
        term = read_term("(\\x.x B x x x x x) (\\y.y ((\\z.A) (" + great + ")))")
        first, other = [family for family, _ in families_of(begun(term))]
        way = (other, first)
        fold = walked(begun(term), way)
        made = families_of(fold)[0][0]
        self.assertEqual(history_of(fold, made), (first,))
        self.assertEqual(limit_of(walked, begun(term), (first,)), 600)
        self.assertEqual(limit_of(again, term, way, made), 600)
        self.assertRaises(InvalidFamily, again, term, way, first)

    def test_way_that_is_too_great(self):
        for limit, term in [(600, WIDE), (60, HIGH)]:
            for way in [(1,), (1, None)]:
                self.assertEqual(limit_of(again, term, way, None), limit)


class RelativesTest(unittest.TestCase):

    def test_relatives(self):
        self.assertIs(relatives(CP, (), 5, (0,), 1), True)
        self.assertIs(relatives(CP, (), 5, (0,), 5), True)
        self.assertIs(relatives(CP, (0,), 1, (0,), 5), True)
        self.assertIs(relatives(CP, (0, 1), 2, (), 5), True)
        self.assertIs(relatives(CP, (), 0, (), 5), False)
        self.assertIs(relatives(CP, (5,), 0, (), 0), True)

    def test_made_redexes(self):
        # Both ways make (\\y.y) A by the same step.
        term = read_term("B ((\\x.x A) \\y.y) ((\\z.z) B)")
        self.assertEqual(redexes(term), [3, 10])
        self.assertEqual([redexes(step(term, 3)), redexes(step(step(term, 10), 3))], [[3, 7], [3]])
        self.assertIs(relatives(term, (3,), 3, (10, 3), 3), True)
        self.assertIs(relatives(term, (3,), 3, (), 3), False)
        self.assertIs(relatives(term, (3,), 7, (), 10), True)

    def test_like_words_behind_the_ways(self):
        dice = random.Random(73)
        found = [0, 0]
        for term in random_terms(73, 150, 25):
            ways = []
            for _ in range(2):
                way, last = [], term
                while redexes(last) and len(way) < 4:
                    way.append(dice.choice(redexes(last)))
                    last = step(last, way[-1])
                ways.append((tuple(way), last))
            (one, first), (two, second) = ways
            folds = [marked_way(begun(term), one), marked_way(begun(term), two)]
            for node in redexes(first):
                for place in redexes(second):
                    like = same_word(folds[0][2], family_at(folds[0], node), folds[1][2], family_at(folds[1], place))
                    self.assertIs(relatives(term, one, node, two, place), like)
                    found[like] += 1
        self.assertGreater(min(found), 20)


class WrongArgumentsTest(unittest.TestCase):

    def test_no_fold_and_no_family(self):
        for value in ODD_VALUES + [(CI, (0, 1, 2, 4), book_of(4))]:
            self.assertRaises(InvalidFold, history_of, value, None)
        for family in [0, 2, 4, -1, True, None, "1", (1,)]:
            self.assertRaises(InvalidFamily, history_of, begun(CI), family)

    def test_again(self):
        for value in ODD_VALUES:
            if value != A:
                self.assertRaises(InvalidTerm, again, value, None, None)
            if value != ():
                self.assertRaises(InvalidWay, again, CP, value, None)
        for way in [(0,), (1, 1), (True,), [1]]:
            self.assertRaises(InvalidWay, again, CP, way, None)
        for family in [0, 2, -1, True, None, "1", (1,)]:
            self.assertRaises(InvalidFamily, again, CP, (), family)
        self.assertRaises(InvalidFamily, again, CP, (1,), 1)

    def test_relatives(self):
        for value in ODD_VALUES:
            if value != A:
                self.assertRaises(InvalidTerm, relatives, value, None, None, None, None)
            if value not in [(), (0,)]:
                self.assertRaises(InvalidWay, relatives, CP, value, None, None, None)
                self.assertRaises(InvalidWay, relatives, CP, (), 0, value, None)
        for node in [-1, 1, 9, 100, True, False, None, "0", (0,)]:
            self.assertRaises(InvalidNode, relatives, CP, (), node, None, None)
            self.assertRaises(InvalidNode, relatives, CP, (), 0, (), node)
        self.assertRaises(InvalidWay, relatives, CP, (0,) * 201, 0, (), 0)

    def test_relatives_along_ways_that_are_too_great(self):
        for limit, term in [(600, WIDE), (60, HIGH)]:
            self.assertEqual(limit_of(relatives, term, (0, None), None, None, None), limit)
            self.assertEqual(limit_of(relatives, term, (), 0, (0, None), None), limit)
            self.assertRaises(InvalidNode, relatives, term, (), 1, (0,), None)
        self.assertRaises(InvalidNode, relatives, T, (), 1, (9,), None)
        self.assertIs(relatives(call(W, W), (0,) * 9, 0, (0,) * 9, 0), True)
        self.assertIs(relatives(call(W, W), (0,) * 9, 0, (0,) * 8, 0), False)


if __name__ == "__main__":
    unittest.main()
