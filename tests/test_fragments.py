"""Terms that are affine, linear, flat: [32] and [77], and what [3] promises of them."""

import random
import unittest

from sharefold.errors import InvalidTerm, NotAffine
from sharefold.fragments import affine_lengths, fun_count, is_affine, is_flat, is_linear
from sharefold.steps import redexes
from sharefold.terms import height_of
from tests.samples import A, B, HIGH, I, ODD_VALUES, T, W, WIDE, call, calls, full, funs, limit_of, random_terms
from tests.samples import slow_step
from tests.test_degrees import GT
from tests.test_developments import chain
from tests.type_oracle import numbered, slow_types

N = ("name", 0)


def names_of_funs(term):
    rows = numbered(term)
    return {node: [name for name in rows if rows[name][:2] == ("name", node)] for node in rows if rows[node][0] == "fun"}


def random_affine(dice, size, free=()):
    """An affine term of about so many nodes, in which free names of functions may stand, each once."""
    if size <= 1:
        own = dice.choice(list(free) + [None]) if free else None
        return own, ("letter", dice.choice("AB")) if own is None else ("own", own)
    if dice.random() < 0.35:
        own = object()
        used, body = random_affine(dice, size - 1, free + (own,))
        return used, ("fun", own, body)
    first = dice.randrange(1, max(2, size - 1))
    parts = [free[:len(free) // 2], free[len(free) // 2:]]
    dice.shuffle(parts)
    one = random_affine(dice, first, parts[0])[1]
    if dice.random() < 0.6:
        own = object()
        one = ("fun", own, random_affine(dice, first, parts[0] + (own,))[1])
    return None, ("call", one, random_affine(dice, size - 1 - first, parts[1])[1])


def plain(told, around=()):
    if told[0] == "own":
        return "name", around[::-1].index(told[1])
    if told[0] == "fun":
        return "fun", plain(told[2], around + (told[1],))
    return told if told[0] == "letter" else ("call", plain(told[1], around), plain(told[2], around))


def affine_terms(seed, many, greatest):
    dice = random.Random(seed)
    return [plain(random_affine(dice, dice.randrange(1, greatest))[1]) for _ in range(many)]


def slow_lengths(term, known):
    """The set of the lengths of all ways to a normal form, and of these."""
    if term not in known:
        nexts = {slow_step(term, node)[0] for node in redexes(term)}
        if not nexts:
            known[term] = {(0, term)}
        else:
            known[term] = {(many + 1, last) for own in nexts for many, last in slow_lengths(own, known)}
    return known[term]


class SortsTest(unittest.TestCase):

    def test_names_and_types(self):
        counts = [0] * 4
        for term in random_terms(331, 400, 14) + affine_terms(331, 100, 20) + [A, I, W, T, GT, funs(3, A)]:
            names = names_of_funs(term)
            many = [len(own) for own in names.values()]
            types = slow_types(term)
            flat = types is not None and all(types[own[0]][0] == "open" for own in names.values() if len(own) > 1)
            self.assertEqual(fun_count(term), len(names))
            self.assertIs(is_affine(term), max(many, default=0) <= 1)
            self.assertIs(is_linear(term), set(many) <= {1})
            self.assertIs(is_flat(term), flat)
            counts = [old + new for old, new in zip(counts, [is_affine(term), is_linear(term), is_flat(term), 1])]
        self.assertGreater(min(counts), 60)

    def test_one_by_one(self):
        twice = funs(1, call(A, N, N))
        self.assertEqual([is_affine(funs(1, A)), is_linear(funs(1, A)), is_flat(funs(1, A))], [True, False, True])
        self.assertEqual([is_affine(twice), is_linear(twice), is_flat(twice)], [False, False, True])
        # The names are functions here.
        called = funs(1, call(A, call(N, A), call(N, B)))
        self.assertEqual([is_affine(called), is_linear(called), is_flat(called)], [False, False, False])
        self.assertEqual([is_flat(call(twice, I)), is_flat(call(twice, A))], [False, True])
        # Without a typing, though no function has more than one name.
        knot = funs(1, call(funs(1, call(N, ("name", 1))), ("name", 0)))
        self.assertEqual([is_affine(knot), is_flat(knot)], [False, False])
        self.assertEqual([is_flat(call(I, W)), is_affine(A), is_linear(A), is_flat(A)], [False, True, True, True])
        self.assertEqual([fun_count(A), fun_count(funs(59, A)), fun_count(T)], [0, 59, 2])


class LengthsTest(unittest.TestCase):

    def test_all_ways(self):
        unlike = 0
        for term in affine_terms(332, 400, 30):
            known = {}
            lengths = slow_lengths(term, known)
            if len(known) > 300:
                self.assertEqual(limit_of(affine_lengths, term), 300)
                continue
            least, greatest, normal = affine_lengths(term)
            self.assertEqual((least, greatest), (min(lengths)[0], max(lengths)[0]))
            self.assertEqual({last for _, last in lengths}, {normal})
            self.assertLessEqual(greatest, fun_count(term))
            unlike += least < greatest
        self.assertGreater(unlike, 15)

    def test_redexes_that_go(self):
        term = call(funs(1, A), chain(5))
        self.assertEqual(affine_lengths(term), (1, 6, A))
        self.assertEqual(affine_lengths(call(term, term)), (2, 12, call(A, A)))
        self.assertEqual(affine_lengths(A), (0, 0, A))
        # Redexes that come of others.
        self.assertEqual(affine_lengths(call(funs(2, ("name", 1)), A, chain(2))), (2, 4, A))
        self.assertEqual(affine_lengths(call(I, I, I, I)), (3, 3, I))

    def test_names_of_functions_around(self):
        term = funs(2, call(funs(1, call(N, ("name", 2))), ("name", 0)))
        self.assertEqual(affine_lengths(term), (1, 1, funs(2, call(N, ("name", 1)))))
        term = funs(1, call(funs(1, funs(2, ("name", 2))), N))
        self.assertEqual(affine_lengths(term), (1, 1, funs(1, funs(2, ("name", 2)))))

    def test_300_unlike_terms_and_one_more(self):
        # So many terms each: one more than the steps of each of the two chains, multiplied.
        for one, other, limit in [(14, 19, None), (6, 42, 300), (19, 14, None), (42, 6, 300)]:
            term = call(chain(one), chain(other))
            self.assertEqual(limit_of(affine_lengths, term), limit)
            if limit is None:
                self.assertEqual(affine_lengths(term), (33, 33, call(A, A)))
        # Behind ways of as many steps as there are functions in the greatest term of this sort.
        great = call(call(chain(50), chain(50)), call(chain(50), chain(47)))
        self.assertEqual(limit_of(affine_lengths, great), 300)

    def test_normal_forms_of_a_height_of_60_and_of_61(self):
        for many, limit in [(29, None), (30, 60)]:
            term = call(funs(1, calls(30, N)), calls(many, B))
            self.assertEqual(limit_of(affine_lengths, term), limit)
            if limit is None:
                self.assertEqual(affine_lengths(term), (1, 1, calls(59, B)))
                self.assertEqual(height_of(affine_lengths(term)[2]), 60)
        self.assertEqual(limit_of(affine_lengths, call(chain(20), call(chain(20), HIGH))), 300)

    def test_steps_as_great_as_they_are(self):
        # All of it goes in the end, but it is 61 high ahead of that.
        self.assertEqual(affine_lengths(call(funs(1, A), HIGH)), (1, 2, A))
        # Functions in one another, far above 60.
        tower = A
        for _ in range(8):
            tower = call(funs(1, funs(45, ("name", 45))), tower)
        self.assertEqual(affine_lengths(call(funs(1, B), tower)), (1, 9, B))
        self.assertEqual(limit_of(affine_lengths, tower), 60)


class WrongArgumentsTest(unittest.TestCase):

    def test_not_affine(self):
        for term in [W, T, call(W, W), WIDE, funs(1, funs(1, call(("name", 1), ("name", 1)))), call(full(100), W)]:
            self.assertRaises(NotAffine, affine_lengths, term)

    def test_no_terms(self):
        for value in ODD_VALUES:
            if value != A:
                for function in [fun_count, is_affine, is_linear, is_flat, affine_lengths]:
                    self.assertRaises(InvalidTerm, function, value)


if __name__ == "__main__":
    unittest.main()
