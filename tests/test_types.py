"""Types: [28] and [72]."""

import random
import unittest

from sharefold.errors import InvalidFillings, InvalidType, InvalidTyping
from sharefold.types import filled, is_type, opens_of, plain_types, type_height
from tests.samples import ODD_VALUES, limit_of
from tests.type_oracle import renumbered

GA, GB = ("open", 0), ("to", ("open", 3), ("to", ("open", 1), ("open", 3)))


def to(*types):
    """The type of a row of types, the last one the innermost."""
    own = types[-1]
    for one in types[:-1][::-1]:
        own = ("to", one, own)
    return own


def tall(height):
    """A type of this height, and of a size of 2 * height + 1."""
    return to(*[GA] * (height + 1))


def wide(leaves):
    """A low type of so many open ones, so of a size of 2 * leaves - 1."""
    if leaves == 1:
        return GA
    return "to", wide(leaves // 2), wide(leaves - leaves // 2)


def size(own):
    return 1 if own[0] == "open" else 1 + size(own[1]) + size(own[2])


def random_type(dice, leaves, opens=4):
    if leaves == 1:
        return "open", dice.randrange(opens)
    first = dice.randrange(1, leaves)
    return "to", random_type(dice, first, opens), random_type(dice, leaves - first, opens)


def put(own, fillings):
    if own[0] == "open":
        return fillings[own[1]] if own[1] < len(fillings) else own
    return "to", put(own[1], fillings), put(own[2], fillings)


class IsTypeTest(unittest.TestCase):

    def test_types(self):
        for value in [GA, GB, ("open", 2000), ("to", GA, GA), ("to", GB, GB), tall(60), wide(150)]:
            self.assertIs(is_type(value), True)

    def test_no_types(self):
        for value in ODD_VALUES:
            for own in [value, ("to", value, GA), ("to", GA, value), ("to", GB, ("to", value, GA))]:
                self.assertIs(is_type(own), False)
            if value not in (0, 5):
                self.assertIs(is_type(("open", value)), False)
            self.assertIs(is_type((value, GA, GA)), False)
            self.assertIs(is_type((value, 0)), False)
        for value in [("open", 2001), ("open", -1), ("open", True), ("open", False), ("open", "0"), ("open",), ("to",),
                      ("open", 0, 0), ("to", GA), ("to", GA, GA, GA), ["open", 0], ["to", GA, GA], ("to", [], GA),
                      ("to", ["open", 0], GA), ("Open", 0), ("To", GA, GA), ("open", GA, GA), ("to", 0), ("letter", "A")]:
            self.assertIs(is_type(value), False, value)

    def test_a_size_of_300_and_more(self):
        self.assertEqual([size(wide(150)), size(wide(151))], [299, 301])
        self.assertEqual([is_type(wide(150)), is_type(wide(151)), is_type(wide(3000))], [True, False, False])

    def test_a_height_of_60_and_one_more(self):
        self.assertEqual([is_type(tall(height)) for height in (59, 60, 61, 90)], [True, True, False, False])
        left = GA
        for height in range(62):
            self.assertIs(is_type(left), height <= 60)
            left = ("to", left, GA)

    def test_open_ones_up_to_2000(self):
        self.assertEqual([is_type(("open", n)) for n in (0, 702, 2000, 2001, 10 ** 100)], [True] * 3 + [False] * 2)


class MeasuresTest(unittest.TestCase):

    def test_height(self):
        self.assertEqual([type_height(own) for own in (GA, ("to", GA, GA), GB, tall(60), wide(8))], [0, 1, 2, 60, 3])
        self.assertEqual(type_height(("to", GB, GA)), 3)

    def test_open_ones(self):
        self.assertEqual([opens_of(GA), opens_of(GB), opens_of(("to", ("open", 2000), GB))], [(0,), (1, 3), (1, 3, 2000)])
        dice = random.Random(241)
        for _ in range(100):
            own = random_type(dice, dice.randrange(1, 30), 2001)
            self.assertEqual(opens_of(own), tuple(sorted(opens_of(own))))
            self.assertEqual(plain_types((own,)), renumbered((own,)))
            self.assertEqual(len(opens_of(own)), len(opens_of(plain_types((own,))[0])))


class PlainTest(unittest.TestCase):

    def test_as_they_come_first(self):
        self.assertEqual(plain_types((GB, ("open", 1), GA)),
                         (to(GA, ("open", 1), GA), ("open", 1), ("open", 2)))
        self.assertEqual(plain_types((("to", ("open", 9), ("open", 8)),)), (("to", GA, ("open", 1)),))
        self.assertEqual(plain_types(()), ())

    def test_any_types(self):
        dice = random.Random(242)
        for _ in range(200):
            types = tuple([random_type(dice, dice.randrange(1, 9), 12) for _ in range(dice.randrange(6))])
            self.assertEqual(plain_types(types), renumbered(types))
            self.assertEqual(plain_types(plain_types(types)), plain_types(types))

    def test_600_types_and_one_more(self):
        types = tuple([("open", 2000 - n) for n in range(600)])
        self.assertEqual(plain_types(types), tuple([("open", n) for n in range(600)]))
        self.assertRaises(InvalidTyping, plain_types, types + (GA,))
        many = tuple([to(*[("open", (100 * n + k) % 2001) for k in range(61)]) for n in range(600)])
        self.assertEqual(plain_types(many), renumbered(many))


class FilledTest(unittest.TestCase):

    def test_all_at_once(self):
        one, two = ("open", 1), ("open", 2)
        self.assertEqual(filled((to(GA, one, GA),), (one, GA)), (to(one, GA, one),))
        self.assertEqual(filled((to(GA, one), two), (GB, ("to", GA, GA))), (to(GB, ("to", GA, GA)), two))

    def test_more_or_fewer_fillings_than_open_ones(self):
        self.assertEqual(filled((GB,), ()), (GB,))
        self.assertEqual(filled((GB,), (GA, GA)), (to(("open", 3), GA, ("open", 3)),))
        self.assertEqual(filled((GA,), (("open", 7),) * 600), (("open", 7),))
        self.assertEqual(filled((), (GA,)), ())
        self.assertEqual(filled((("open", 599), ("open", 600)), (GB,) * 600), (GB, ("open", 600)))

    def test_any_types(self):
        dice = random.Random(243)
        for _ in range(200):
            types = tuple([random_type(dice, dice.randrange(1, 6)) for _ in range(dice.randrange(5))])
            fillings = tuple([random_type(dice, dice.randrange(1, 6)) for _ in range(dice.randrange(7))])
            self.assertEqual(filled(types, fillings), tuple([put(own, fillings) for own in types]))

    def test_sizes(self):
        # Two open ones become 149 and 149, or 149 and 151.
        within = filled((("to", GA, ("open", 1)),), (wide(75), wide(75)))
        self.assertEqual(size(within[0]), 299)
        self.assertEqual(limit_of(filled, (("to", GA, ("open", 1)),), (wide(75), wide(76))), 300)
        self.assertEqual(limit_of(filled, (GA, wide(150)), (("to", GA, GA),)), 300)
        # Sizes far beyond are not built.
        self.assertEqual(limit_of(filled, (wide(150),) * 600, (wide(150),)), 300)

    def test_heights(self):
        self.assertEqual(type_height(filled((to(*[("open", 1)] * 30, GA),), (tall(30),))[0]), 60)
        self.assertEqual(limit_of(filled, (to(*[("open", 1)] * 30, GA),), (tall(31),)), 60)

    def test_sizes_come_ahead_of_heights(self):
        high, big = to(*[("open", 1)] * 30, GA), ("to", ("open", 2), ("open", 2))
        fillings = (tall(31), GA, wide(80))
        self.assertEqual(limit_of(filled, (high,), fillings), 60)
        self.assertEqual(limit_of(filled, (big,), fillings), 300)
        for types in [(high, big), (big, high), (to(*[GA] * 10),)]:
            self.assertEqual(limit_of(filled, types, fillings), 300)


class WrongArgumentsTest(unittest.TestCase):

    def test_types(self):
        for value in ODD_VALUES + [("open", 2001), ("open", True), wide(151), tall(61), [GA]]:
            for function in [type_height, opens_of]:
                self.assertRaises(InvalidType, function, value)

    def test_tuples_of_types(self):
        for value in ODD_VALUES + [GA, [GA], (GA,) * 601, (GA, wide(151)), (tall(61),), (GA, None), (("open", True),)]:
            if value != ():
                self.assertRaises(InvalidTyping, plain_types, value)
                self.assertRaises(InvalidTyping, filled, value, value)
                self.assertRaises(InvalidFillings, filled, (GA,), value)
                self.assertRaises(InvalidFillings, filled, (wide(150),), value)


if __name__ == "__main__":
    unittest.main()
