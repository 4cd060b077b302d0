"""Agreements: [27] and [71]."""

import unittest

from sharefold.errors import InvalidNumber, InvalidTerm, TooMany
from sharefold.familysteps import family_step
from sharefold.foldfamilies import agreement, shows_agreement
from sharefold.folds import begun, families_of, family_at
from sharefold.steps import leftmost
from tests.fold_oracle import slow_steps
from tests.samples import A, B, HIGH, I, ODD_VALUES, T, W, WIDE, call, full, funs, limit_of, random_terms
from tests.test_netruns import BIG, DEEP, LOOP

# It takes 64 leftmost family steps to come to its normal form.
MANY = full(64, call(I, A))


def slow_agreement(term, most):
    fold, rows = begun(term), []
    while len(rows) < most and leftmost(fold[0]) is not None:
        node = leftmost(fold[0])
        family = family_at(fold, node)
        lot = dict(families_of(fold))[family]
        fold = slow_steps(fold, lot[::-1], family)
        rows.append((node, lot, fold[0]))
    return tuple(rows)


class AgreementTest(unittest.TestCase):

    def test_step_by_step(self):
        greater = 0
        for term in random_terms(231, 100, 30) + [T, A, LOOP]:
            try:
                expected = slow_agreement(term, 5)
            except TooMany as error:
                self.assertEqual(limit_of(agreement, term, 5), error.limit)
                continue
            self.assertEqual(agreement(term, 5), expected)
            self.assertIs(shows_agreement(term, expected), True)
            for most in range(5):
                self.assertEqual(agreement(term, most), expected[:most])
                self.assertIs(shows_agreement(term, expected[:most]), True)
            greater += any(len(lot) > 1 for _, lot, _ in expected)
        self.assertGreater(greater, 5)

    def test_less_if_the_last_term_is_normal(self):
        self.assertEqual([len(agreement(T, most)) for most in (0, 1, 2, 3, 60)], [0, 1, 2, 2, 2])
        self.assertEqual(agreement(A, 60), ())

    def test_60_triples_and_more(self):
        triples = agreement(MANY, 60)
        self.assertEqual(len(triples), 60)
        self.assertIs(shows_agreement(MANY, triples), True)
        last = triples[-1][2]
        more = triples + agreement(last, 1)
        self.assertEqual(len(more), 61)
        self.assertIs(shows_agreement(MANY, more), False)
        self.assertEqual(len(agreement(full(60, call(I, A)), 60)), 60)

    def test_spoilt_at_each_place(self):
        triples = agreement(call(T, call(I, B)), 60)
        self.assertEqual(len(triples), 3)
        for at, (node, lot, term) in enumerate(triples):
            for own in ODD_VALUES + [
                    (node + 1, lot, term), (bool(node), lot, term), (None, lot, term), (node, lot[:-1], term),
                    (node, lot + lot, term), (node, list(lot), term), (node, tuple([bool(own) for own in lot]), term),
                    (node, lot, A), (node, lot, list(term)), (node, lot), (node, lot, term, term), [node, lot, term],
                    (lot, node, term), (node, (), term)]:
                self.assertIs(shows_agreement(call(T, call(I, B)), triples[:at] + (own,) + triples[at + 1:]), False)
        self.assertIs(shows_agreement(call(T, call(I, B)), triples[1:]), False)
        self.assertIs(shows_agreement(call(T, call(I, B)), triples[::-1]), False)
        self.assertIs(shows_agreement(call(T, call(I, B)), list(triples)), False)
        self.assertIs(shows_agreement(T, triples), False)
        # Behind a normal form there is nothing more.
        self.assertIs(shows_agreement(A, ((0, (), A),)), False)
        self.assertIs(shows_agreement(A, (None,)), False)

    def test_any_values(self):
        for value in ODD_VALUES:
            for term in [A, T, WIDE]:
                self.assertIs(shows_agreement(term, value), value == ())

    def test_words_go_on_from_step_to_step(self):
        # The redexes that come of shared ones are a family still, those that come of others are not.
        term = call(W, call(I, call(I, A)))
        self.assertEqual([row[:2] for row in agreement(term, 9)], [(0, (0,)), (1, (1, 8)), (1, (1, 5))])


class TooGreatTest(unittest.TestCase):

    def test_family_steps(self):
        for term, limit in [(WIDE, 600), (HIGH, 60)]:
            for most in [1, 2, 60]:
                self.assertEqual(limit_of(agreement, term, most), limit)
            self.assertEqual(agreement(term, 0), ())
            self.assertIs(shows_agreement(term, ()), True)
            self.assertIs(shows_agreement(term, ((0, (0,), A),)), False)
            later = call(call(I, A), term)
            self.assertEqual(len(agreement(later, 1)), 1)
            self.assertEqual(limit_of(agreement, later, 2), limit)
            value = agreement(later, 1)
            self.assertIs(shows_agreement(later, value), True)
            self.assertIs(shows_agreement(later, value + ((1, (1,), A),)), False)

    def test_words(self):
        # The terms stay small, but words become longer from step to step.
        x = ("name", 0)
        inner = call(funs(1, call(funs(1, ("name", 1)), call(("name", 1), ("name", 1)))), call(x, x))
        term = call(W, funs(1, inner))
        fold, many = begun(term), 0
        while limit_of(family_step, fold, family_at(fold, leftmost(fold[0]))) is None:
            fold = family_step(fold, family_at(fold, leftmost(fold[0])))
            many += 1
        self.assertEqual(len(agreement(term, many)), many)
        self.assertEqual([limit_of(agreement, term, most) for most in (many + 1, 60)], [400, 400])
        value = agreement(term, many)
        self.assertIs(shows_agreement(term, value), True)
        self.assertIs(shows_agreement(term, value + ((leftmost(fold[0]), (leftmost(fold[0]),), term),)), False)

    def test_nets_are_not_asked_for(self):
        for term in [BIG, DEEP]:
            self.assertEqual(agreement(term, 60), ())
            self.assertIs(shows_agreement(term, ()), True)


class WrongArgumentsTest(unittest.TestCase):

    def test_terms_and_numbers(self):
        for value in ODD_VALUES:
            if value != A:
                self.assertRaises(InvalidTerm, agreement, value, value)
                self.assertRaises(InvalidTerm, shows_agreement, value, value)
        for value in [value for value in ODD_VALUES if value not in (0, 5)] + [61, -1, True, False, 200]:
            self.assertRaises(InvalidNumber, agreement, T, value)
            self.assertRaises(InvalidNumber, agreement, WIDE, value)


if __name__ == "__main__":
    unittest.main()
