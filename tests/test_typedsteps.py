"""Types behind steps: [75], and what [3] promises of them."""

import random
import unittest

from sharefold.errors import InvalidNode, InvalidTerm, InvalidTyping, NotRedex
from sharefold.steps import redexes, step
from sharefold.typedsteps import types_behind
from sharefold.types import filled
from sharefold.typings import fits_typing, takes_types, types_of
from tests.samples import A, B, I, ODD_VALUES, T, W, call, calls, full, funs, limit_of, random_terms, slow_step
from tests.test_types import GA, random_type
from tests.test_typings import doubling

N = ("name", 0)
# Steps with types that would be too great: for 600 nodes, for a height of 60.
WIDE_TYPED = call(funs(1, call(A, N, N, N, N, N)), full(150))
HIGH_TYPED = call(funs(1, calls(30, N)), calls(30, B))


class TypesBehindTest(unittest.TestCase):

    def test_a_copy_has_the_type_of_its_node(self):
        dice = random.Random(311)
        tried = 0
        for term in random_terms(311, 400, 30):
            if limit_of(types_of, term) is not None or types_of(term)[0] == "clash":
                continue
            types = filled(types_of(term)[1], tuple([random_type(dice, dice.randrange(1, 4)) for _ in range(40)]))
            for _ in range(4):
                found = redexes(term)
                if not found or limit_of(step, term, found[-1]) is not None:
                    break
                node = dice.choice(found)
                if limit_of(step, term, node) is not None:
                    continue
                behind, copies = slow_step(term, node)
                told = types_behind(term, types, node)
                self.assertEqual(told, tuple([types[own] for own in copies]))
                self.assertIs(fits_typing(behind, told), True)
                term, types = behind, told
                tried += 1
        self.assertGreater(tried, 150)

    def test_they_need_not_be_the_most_general_ones(self):
        # A function without names drops a call of what stays, so that this need be no function any more.
        term = funs(1, call(funs(1, ("name", 1)), call(N, A)))
        self.assertEqual(step(term, 1), I)
        told = types_behind(term, types_of(term)[1], 1)
        self.assertIs(fits_typing(I, told), True)
        self.assertIs(takes_types(I, ("types", told)), False)
        self.assertEqual((told[0][0], told[1][0]), ("to", "to"))


class WrongArgumentsTest(unittest.TestCase):

    def test_steps_that_are_too_great(self):
        for term, limit in [(WIDE_TYPED, 600), (HIGH_TYPED, 60)]:
            types = types_of(term)[1]
            self.assertEqual(limit_of(types_behind, term, types, 0), limit)
            self.assertRaises(NotRedex, types_behind, term, types, 1)
            self.assertRaises(InvalidTyping, types_behind, term, types[1:], 0)

    def test_from_left_to_right(self):
        term = call(I, I)
        types = types_of(term)[1]
        for value in ODD_VALUES:
            if value != A:
                self.assertRaises(InvalidTerm, types_behind, value, value, value)
            self.assertRaises(InvalidTyping, types_behind, term, value, None)
        for value in [None, True, False, -1, 5, 10 ** 100, "0", (0,), [0]]:
            self.assertRaises(InvalidNode, types_behind, term, types, value)
        for value in [1, 2, 3, 4]:
            self.assertRaises(NotRedex, types_behind, term, types, value)
        for term in [W, T]:
            self.assertRaises(InvalidTyping, types_behind, term, (GA,) * 9, 0)

    def test_types_too_great_to_be_handed_in(self):
        self.assertRaises(InvalidTyping, types_behind, doubling(8), (GA,) * 23, 0)


if __name__ == "__main__":
    unittest.main()
