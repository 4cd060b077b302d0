"""Typings and clashes: [29], [30] and [73], and what [3] promises of them."""

import random
import unittest

from sharefold.errors import InvalidTerm
from sharefold.types import filled
from sharefold.typings import fits_typing, has_types, takes_types, types_of
from tests.samples import A, B, I, ODD_VALUES, T, W, call, calls, full, funs, limit_of, random_terms
from tests.test_types import GA, random_type, size, tall, wide
from tests.type_oracle import numbered, slow_clash, slow_types


def fits(term, types):
    """Whether types, one for each node, are a typing."""
    for node, (kind, own, parts) in numbered(term).items():
        if kind == "fun":
            marks = [types[name] for name, row in numbered(term).items() if row[:2] == ("name", node)]
            if types[node][0] != "to" or types[node][2] != types[parts[0]] or any(m != types[node][1] for m in marks):
                return False
        if kind == "call" and types[parts[0]] != ("to", types[parts[1]], types[node]):
            return False
    return True


def doubling(many):
    """A call of so many functions; the type of the first one is twice as great for each of them."""
    return call(*[I] * many)


def matched(general, types):
    """What the open ones of types stand for so that others come of them; None if they stand for several."""
    known, waiting = {}, list(zip(general, types))
    while waiting:
        one, other = waiting.pop()
        if one[0] == "open":
            if known.setdefault(one[1], other) != other:
                return None
        elif other[0] == "open":
            return None
        else:
            waiting += [(one[1], other[1]), (one[2], other[2])]
    return known


class TypesTest(unittest.TestCase):

    def test_most_general(self):
        typed = clashes = 0
        for term in random_terms(251, 500, 25) + [A, I, T, W, call(A, A), funs(3, ("name", 1)), call(I, I, A)]:
            expected = slow_types(term)
            told = types_of(term)
            self.assertIs(has_types(term), expected is not None)
            self.assertIs(takes_types(term, told), True)
            if expected is None:
                self.assertEqual((told[0], len(told)), ("clash", 3))
                self.assertIs(slow_clash(term, *told[1:]), True)
                clashes += 1
            else:
                self.assertEqual(told, ("types", expected))
                self.assertIs(fits_typing(term, expected), True)
                self.assertIs(fits(term, expected), True)
                typed += 1
        self.assertGreater(min(typed, clashes), 60)

    def test_greater_terms(self):
        for term in random_terms(252, 60, 300):
            told = types_of(term) if limit_of(types_of, term) is None else None
            self.assertIs(has_types(term), told is None or told[0] == "types")
            if told is not None:
                self.assertIs(takes_types(term, told), True)
                if told[0] == "clash":
                    self.assertIs(slow_clash(term, *told[1:]), True)
                else:
                    self.assertIs(fits(term, told[1]), True)

    def test_letters_have_types_of_their_own(self):
        self.assertEqual(types_of(call(A, A))[1], (GA, ("to", ("open", 1), GA), ("open", 1)))
        self.assertEqual(types_of(funs(1, B))[1], (("to", GA, ("open", 1)), ("open", 1)))

    def test_joins_are_needed(self):
        # x is called with a letter, and with itself behind that: x A is a function.
        term = funs(1, call(("name", 0), ("name", 0), A))
        self.assertEqual(types_of(term)[0], "clash")
        term = funs(2, call(A, call(("name", 1), ("name", 0)), call(("name", 0), ("name", 1))))
        told = types_of(term)
        self.assertEqual(told[0], "clash")
        self.assertIs(slow_clash(term, *told[1:]), True)

    def test_a_great_term_with_a_clash(self):
        term = funs(1, full(299, ("name", 0)))
        told = types_of(term)
        self.assertEqual(told[0], "clash")
        self.assertIs(slow_clash(term, *told[1:]), True)
        self.assertLessEqual(max(len(told[1]), len(told[2])), 1198)
        self.assertIs(has_types(full(300)), True)


class FitsTest(unittest.TestCase):

    def test_fillings_of_the_most_general_one_fit(self):
        dice = random.Random(253)
        tried = 0
        for term in random_terms(253, 150, 16):
            if not has_types(term):
                continue
            fillings = tuple([random_type(dice, dice.randrange(1, 4)) for _ in range(30)])
            types = filled(types_of(term)[1], fillings)
            self.assertIs(fits_typing(term, types), True)
            for at in range(len(types)):
                for own in [random_type(dice, dice.randrange(1, 5)), GA, ("to", GA, GA)]:
                    other = types[:at] + (own,) + types[at + 1:]
                    self.assertIs(fits_typing(term, other), fits(term, other))
                    tried += fits(term, other)
                    if fits(term, other):
                        known = matched(types_of(term)[1], other)
                        self.assertEqual(sorted(known), list(range(len(known))))
                        self.assertEqual(filled(types_of(term)[1], tuple([known[n] for n in range(len(known))])), other)
                self.assertIs(fits_typing(term, types[:at] + (list(types[at]),) + types[at + 1:]), False)
        self.assertGreater(tried, 50)

    def test_any_values(self):
        types = types_of(I)[1]
        for value in ODD_VALUES + [list(types), types[:1], types + (GA,), (GA, GA), (("to", GA, GA), ("open", False)),
                                   (("to", GA, GA), ("open", 1)), (("to", ("open", 1), GA), GA), ("types", types)]:
            self.assertIs(fits_typing(I, value), False, value)
        self.assertIs(fits_typing(I, (("to", ("open", 9), ("open", 9)), ("open", 9))), True)
        self.assertIs(fits_typing(A, (wide(150),)), True)
        self.assertIs(fits_typing(A, (wide(151),)), False)
        self.assertIs(fits_typing(A, (tall(60),)), True)
        self.assertIs(fits_typing(A, (tall(61),)), False)
        self.assertIs(fits_typing(A, (("open", 2001),)), False)

    def test_terms_without_types(self):
        for types in [(GA,) * 4, (("to", ("to", GA, GA), GA), GA, ("to", GA, GA), ("to", GA, GA))]:
            self.assertIs(fits_typing(W, types), False)


class TooGreatTest(unittest.TestCase):

    def spread(self, many):
        """A letter with arguments, at which there is a type of a size of 2 * many + 1; its height is small."""
        rows = [funs(9, B)] * (many // 10) + ([funs(many % 10 - 1, B)] if many % 10 else [])
        return call(A, *rows)

    def test_sizes(self):
        for many, limit in [(149, None), (150, 300), (170, 300)]:
            term = self.spread(many)
            self.assertEqual(limit_of(types_of, term), limit)
            self.assertIs(has_types(term), True)
            expected = slow_types(term)
            self.assertEqual(max(size(own) for own in expected), 2 * many + 1)
            self.assertIs(takes_types(term, ("types", expected)), limit is None)
            self.assertIs(fits_typing(term, expected), limit is None)

    def test_heights(self):
        for many, limit in [(30, None), (31, 60)]:
            term = call(*[A] * 30, funs(many, B))
            self.assertEqual(limit_of(types_of, term), limit)
            self.assertIs(has_types(term), True)
            self.assertIs(takes_types(term, ("types", slow_types(term))), limit is None)
            self.assertIs(fits_typing(term, slow_types(term)), limit is None)

    def test_sizes_come_ahead_of_heights(self):
        # One type is too high, another one too great; and one that is both.
        high = call(*[A] * 30, funs(31, B))
        self.assertEqual(limit_of(types_of, call(high, self.spread(150))), 300)
        self.assertEqual(limit_of(types_of, call(self.spread(150), high)), 300)
        self.assertEqual(limit_of(types_of, call(*[A] * 57, funs(50, B), funs(50, B))), 300)

    def test_types_that_are_far_too_great(self):
        # The first function of so many has a type of a size of 2 ** (many + 1) - 1.
        for many, limit in [(6, None), (7, None), (8, 300), (9, 300), (50, 300)]:
            self.assertEqual(limit_of(types_of, doubling(many)), limit)
            self.assertIs(has_types(doubling(many)), True)
        self.assertIs(takes_types(doubling(50), ("types", ())), False)
        self.assertIs(takes_types(doubling(50), ("clash", (), ((0, 0),))), False)


class TakesTest(unittest.TestCase):

    def test_types_spoilt_at_each_place(self):
        term = call(I, I, A)
        word, types = types_of(term)
        self.assertIs(takes_types(term, (word, types)), True)
        for value in ODD_VALUES + [types, (types,), (word,), [word, types], (word, list(types)), (word, types, ()),
                                   ("Types", types), ("clash", types), (word, types[:-1]), (word, types + (GA,)),
                                   (word, filled(types, (("open", 1),))), (word, filled(types, (("to", GA, GA),)))]:
            self.assertIs(takes_types(term, value), False, value)
        for at, own in enumerate(types):
            for other in [("open", 9), list(own), ("open", False), ("open", 0, 0), None, ("to", own, own)]:
                if other != own or isinstance(other[1], bool):
                    self.assertIs(takes_types(term, (word, types[:at] + (other,) + types[at + 1:])), False)
        self.assertIs(takes_types(W, (word, types)), False)

    def test_a_typing_that_is_not_the_most_general_one(self):
        self.assertIs(takes_types(A, ("types", (GA,))), True)
        for own in [("open", 1), ("to", GA, GA)]:
            self.assertIs(fits_typing(A, (own,)), True)
            self.assertIs(takes_types(A, ("types", (own,))), False)

    def test_rings(self):
        # In W the call's first part is what its function is.
        self.assertIs(takes_types(W, ("clash", (), ((1, 0),))), True)
        for ring in [((1, 1),), ((0, 0),), ((0, 0), (1, 0)), ((1, 0), (0, 0)), ((1, 2),), ((1, -1),), ((2, 0),), ((9, 0),),
                     ((-3, 0),), ((True, 0),), ((1, False),), ((1, 0, 0),), ((1,),), ([1, 0],), [(1, 0)], (), ((),), None,
                     ((None, 0),), ((1, None),), (1, 0), (("1", 0),), ((1, "0"),), (((1, 0),),)]:
            self.assertIs(takes_types(W, ("clash", (), ring)), False, ring)

    def test_joins(self):
        ring = ((1, 0),)
        for joins, expected in [((), True), (((1, 1),), True), (((0, 0),), True), (((0, 1),), False), (((1, 0),), False)]:
            self.assertIs(takes_types(W, ("clash", joins, ring)), expected)
        for joins in [[], [(1, 1)], ([1, 1],), ((1, 1, 1),), ((1,),), ((),), ((2, 2),), ((1, 4),), ((True, 1),), ((1, True),),
                      None, 0, (1, 1), ((None, 1),), (("1", 1),), ((-3, 1),), (((1,), 1),)]:
            self.assertIs(takes_types(W, ("clash", joins, ring)), False, joins)

    def test_as_many_pairs_as_twice_the_number_of_nodes_and_more(self):
        for many in [7, 8, 9, 100]:
            self.assertIs(takes_types(W, ("clash", (), ((1, 0),) * many)), many <= 8)
            self.assertIs(takes_types(W, ("clash", ((1, 1),) * many, ((1, 0),))), many <= 8)

    def test_clashes_spoilt_at_each_place(self):
        dice = random.Random(254)
        taken = 0
        for term in random_terms(254, 150, 25):
            told = types_of(term)
            if told[0] != "clash":
                continue
            _, joins, ring = told
            for at, (one, other) in enumerate(joins):
                for pair in [(other, one), (one, one), (one, dice.randrange(25)), (one + 1, other)]:
                    new = joins[:at] + (pair,) + joins[at + 1:]
                    self.assertIs(takes_types(term, ("clash", new, ring)), slow_clash(term, new, ring))
                new = joins[:at] + joins[at + 1:]
                self.assertIs(takes_types(term, ("clash", new, ring)), slow_clash(term, new, ring))
                taken += slow_clash(term, new, ring)
            for at, (arrow, which) in enumerate(ring):
                for pair in [(arrow, 1 - which), (dice.randrange(25), which), (arrow + 1, which)]:
                    new = ring[:at] + (pair,) + ring[at + 1:]
                    self.assertIs(takes_types(term, ("clash", joins, new)), slow_clash(term, joins, new))
                new = ring[:at] + ring[at + 1:]
                self.assertIs(takes_types(term, ("clash", joins, new)), slow_clash(term, joins, new))
            self.assertIs(takes_types(term, ("clash", joins[::-1], ring)), slow_clash(term, joins[::-1], ring))
            self.assertIs(takes_types(term, ["clash", joins, ring]), False)
            self.assertIs(takes_types(term, ("clash", joins)), False)
            self.assertIs(takes_types(term, ("Clash", joins, ring)), False)
        self.assertGreater(taken, 3)

    def test_no_clash_of_a_term_with_types(self):
        dice = random.Random(255)
        for term in random_terms(255, 200, 16):
            if has_types(term):
                nodes = range(len(numbered(term)))
                for _ in range(20):
                    joins = tuple([(dice.choice(nodes), dice.choice(nodes)) for _ in range(dice.randrange(3))])
                    ring = tuple([(dice.choice(nodes), dice.randrange(2)) for _ in range(dice.randrange(1, 4))])
                    self.assertIs(takes_types(term, ("clash", joins, ring)), False)


class WrongArgumentsTest(unittest.TestCase):

    def test_no_term(self):
        for value in ODD_VALUES:
            if value != A:
                self.assertRaises(InvalidTerm, types_of, value)
                self.assertRaises(InvalidTerm, has_types, value)
                self.assertRaises(InvalidTerm, fits_typing, value, value)
                self.assertRaises(InvalidTerm, takes_types, value, value)

    def test_great_terms(self):
        for term in [calls(59, A), funs(59, ("name", 30)), full(300)]:
            self.assertIs(has_types(term), True)


if __name__ == "__main__":
    unittest.main()
