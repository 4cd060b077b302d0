"""Fillings by which typings come of the most general one: [74], and what [3] promises of them."""

import random
import unittest

from sharefold.errors import InvalidTerm, InvalidTyping, NoTypes
from sharefold.instances import fillings_of, open_count
from sharefold.types import filled, opens_of
from sharefold.typings import fits_typing, has_types, types_of
from tests.samples import A, I, ODD_VALUES, T, W, call, full, funs, random_terms
from tests.test_types import GA, random_type, tall, wide
from tests.test_typings import doubling

GB = ("open", 1)


class FillingsTest(unittest.TestCase):

    def test_back_to_the_fillings(self):
        dice = random.Random(301)
        tried = 0
        for term in random_terms(301, 250, 25):
            if not has_types(term):
                self.assertRaises(NoTypes, open_count, term)
                continue
            general = types_of(term)[1]
            many = len({number for own in general for number in opens_of(own)})
            self.assertEqual(open_count(term), many)
            fillings = tuple([random_type(dice, dice.randrange(1, 5)) for _ in range(many)])
            types = filled(general, fillings)
            self.assertEqual(fillings_of(term, types), fillings)
            self.assertEqual(fillings_of(term, general), tuple([("open", number) for number in range(many)]))
            tried += many > 1
        self.assertGreater(tried, 60)

    def test_numbers_of_open_ones_are_free(self):
        self.assertEqual(fillings_of(I, (("to", ("open", 2000), ("open", 2000)), ("open", 2000))), (("open", 2000),))
        self.assertEqual(fillings_of(call(A, A), (GB, ("to", GB, GB), GB)), (GB, GB))
        self.assertEqual(fillings_of(call(A, A), (GB, ("to", GA, GB), GA)), (GB, GA))

    def test_great_fillings(self):
        for own in [wide(150), tall(60)]:
            self.assertEqual(fillings_of(A, (own,)), (own,))
        self.assertRaises(InvalidTyping, fillings_of, A, (wide(151),))
        self.assertRaises(InvalidTyping, fillings_of, A, (tall(61),))

    def test_counts_of_types_of_any_size(self):
        self.assertEqual([open_count(doubling(many)) for many in (2, 7, 8, 50)], [1] * 4)
        self.assertEqual(open_count(full(300)), 300)
        self.assertEqual([open_count(funs(many, A)) for many in (0, 1, 59)], [1, 2, 60])


class WrongArgumentsTest(unittest.TestCase):

    def test_terms_without_types(self):
        for types in [(GA,) * 4, (("to", ("to", GA, GA), GA), GA, ("to", GA, GA), ("to", GA, GA)), (), None]:
            self.assertRaises(InvalidTyping, fillings_of, W, types)
        self.assertRaises(NoTypes, open_count, W)
        self.assertRaises(NoTypes, open_count, T)

    def test_types_that_are_no_typing(self):
        types = types_of(I)[1]
        for value in ODD_VALUES + [list(types), types[:1], types + (GA,), (GA, GA), (types[0], GB), ("types", types),
                                   (("to", GA, GB), GB), (("to", ("open", True), ("open", True)), ("open", True))]:
            self.assertIs(fits_typing(I, value), False)
            self.assertRaises(InvalidTyping, fillings_of, I, value)

    def test_no_terms(self):
        for value in ODD_VALUES:
            if value != A:
                self.assertRaises(InvalidTerm, fillings_of, value, value)
                self.assertRaises(InvalidTerm, open_count, value)


if __name__ == "__main__":
    unittest.main()
