"""Texts of types: [10] and [51]."""

import itertools
import random
import re
import unittest

from sharefold.errors import TooMany
from sharefold.texterrors import BadText, InvalidText, NotWritable
from sharefold.typetexts import read_type, write_type
from tests.samples import ODD_VALUES, nested

GA, GB = ("open", 0), ("open", 1)


def arrow(*parts):
    """The type of parts with arrows between, the first one parting the one from the others."""
    own = parts[-1]
    for part in parts[:-1][::-1]:
        own = ("to", part, own)
    return own


def wide(many):
    """A low type with so many open ones, so built of 2 * many - 1 types."""
    if many == 1:
        return GA
    return ("to", wide(many // 2), wide(many - many // 2))


def random_type(dice, size):
    if size < 3:
        return ("open", dice.choice([0, 1, 25, 26, 27, 700, 701, dice.randrange(702)]))
    first = dice.randrange(1, size - 1)
    return ("to", random_type(dice, first), random_type(dice, size - 1 - first))


def slow_type(text):
    """The type of a text, or None."""
    parts, depth, begin = [], 0, 0
    for index, sign in enumerate(text + ">"):
        if sign == ">" and depth == 0:
            parts.append(text[begin:index])
            begin = index + 1
        depth += {"(": 1, ")": -1}.get(sign, 0)
    owns = []
    for part in parts:
        if re.fullmatch("[a-z][a-z]?", part):
            owns.append(("open", "abcdefghijklmnopqrstuvwxyz".index(part[-1])
                         + 26 * " abcdefghijklmnopqrstuvwxyz".index(part[:-1] or " ")))
        elif part[:1] == "(" and part[-1:] == ")":
            owns.append(slow_type(part[1:-1]))
        else:
            return None
    return None if depth or None in owns else arrow(*owns)


def slow_refused(text):
    for index in range(len(text)):
        ends = [end + ")" * many for end in ["", "a"] for many in range(text.count("(") + 1)]
        if all(slow_type(text[:index + 1] + end) is None for end in ends):
            return index
    return None if slow_type(text) is not None else len(text)


class WriteTest(unittest.TestCase):

    def test_texts(self):
        for own, text in [(GA, "a"), (("open", 25), "z"), (("open", 26), "aa"), (("open", 27), "ab"),
                          (("open", 51), "az"), (("open", 52), "ba"), (("open", 701), "zz"), (arrow(GA, GB), "a>b"),
                          (arrow(GA, GB, GA), "a>b>a"), (arrow(arrow(GA, GB), GA), "(a>b)>a"),
                          (arrow(GA, arrow(GB, GA), GB), "a>(b>a)>b"), (arrow(arrow(arrow(GA, GA), GA), GA), "((a>a)>a)>a")]:
            self.assertEqual(write_type(own), text)
            self.assertEqual(read_type(text), own)

    def test_all_open_ones(self):
        texts = [write_type(("open", number)) for number in range(702)]
        self.assertEqual(len(set(texts)), 702)
        self.assertEqual([read_type(text) for text in texts], [("open", number) for number in range(702)])

    def test_600_types_and_one_more(self):
        # An open type and arrows make types of odd numbers alone.
        self.assertEqual(len(re.findall("a", write_type(wide(300)))), 300)
        self.assertRaises(NotWritable, write_type, wide(301))
        self.assertRaises(NotWritable, write_type, arrow(GA, wide(300)))

    def test_height_60_and_61(self):
        self.assertEqual(write_type(arrow(*[GA] * 60)), "a" + ">a" * 59)
        self.assertRaises(NotWritable, write_type, arrow(*[GA] * 61))
        own = GA
        for _ in range(59):
            own = arrow(own, GB)
        self.assertEqual(write_type(own), "(" * 58 + "a>b" + ")>b" * 58)
        self.assertRaises(NotWritable, write_type, arrow(own, GB))

    def test_not_writable(self):
        for value in ODD_VALUES + [("open", 702), ("open", -1), ("open", True), ("open", "a"), ("open", None), ("open",),
                                   ("open", 0, 0), ["open", 0], ("to", GA), ("to", GA, GA, GA), ["to", GA, GA],
                                   ("to", GA, ["open", 0]), ("to", GA, ("open", False)), ("to", None, GA), ("To", GA, GA),
                                   ("to", 0), ("to", nested(98), GA), ("open", (0,))]:
            self.assertRaises(NotWritable, write_type, value)


class ReadTest(unittest.TestCase):

    def assert_bad(self, place, text):
        with self.assertRaises(BadText) as caught:
            read_type(text)
        self.assertEqual(caught.exception.place, place, text)

    def test_brackets_that_need_not_be(self):
        self.assertEqual(read_type("((a))>(b>(a))"), arrow(GA, GB, GA))
        self.assertEqual(read_type("(a>b)"), arrow(GA, GB))

    def test_where_texts_are_refused(self):
        for place, text in [(0, ""), (0, ">a"), (0, " a"), (0, "A"), (0, ")"), (0, "1"), (1, "a b"), (1, "a)"), (1, "a("),
                            (2, "a>"), (2, "a>>b"), (2, "aaa"), (2, "ab(c)"), (1, "("),
                            (1, "()"), (2, "(a"), (3, "(a>"), (3, "(a)b"), (3, "(a)(b)"), (3, "(a))"), (1, "a\n"),
                            (4, "a>bcd"), (3, "a>b a"), (2, "a> b")]:
            self.assert_bad(place, text)

    def test_60_brackets_and_one_more(self):
        self.assertEqual(read_type("(" * 60 + "a" + ")" * 60), GA)
        self.assert_bad(60, "(" * 61 + "a" + ")" * 61)
        self.assertEqual(read_type("(" * 60 + "a" + ")" * 60 + ">(b)"), arrow(GA, GB))
        self.assert_bad(62, "(" * 60 + "a>(b)" + ")" * 60)

    def test_too_many_types_then_too_high(self):
        for limit, text in [(600, "a>" * 300 + "a"), (60, "a>" * 60 + "a"), (60, "(" * 60 + "a" + ">b)" * 60),
                            (600, "a" + ">a" * 999)]:
            with self.assertRaises(TooMany) as caught:
                read_type(text)
            self.assertEqual(caught.exception.limit, limit)
        self.assertEqual(read_type("a>" * 59 + "a"), arrow(*[GA] * 60))
        text = write_type(wide(300))
        self.assertEqual(read_type(text), wide(300))
        with self.assertRaises(TooMany) as caught:
            read_type("a>" + text)
        self.assertEqual(caught.exception.limit, 600)

    def test_no_text(self):
        self.assertRaises(InvalidText, read_type, "a" + ">a" * 1000)
        for value in ODD_VALUES:
            if not isinstance(value, str):
                self.assertRaises(InvalidText, read_type, value)

    def test_like_texts_read_whole(self):
        texts = ["".join(signs) for many in range(7) for signs in itertools.product("a>()", repeat=many)]
        for text in texts + ["ab>c", "ab>cd)", "(zz>a)>bb", "(zz>a)>bbb"]:
            place = slow_refused(text)
            if place is None:
                self.assertEqual(read_type(text), slow_type(text))
            else:
                self.assert_bad(place, text)

    def test_written_texts_are_read_as_the_type(self):
        dice = random.Random(31)
        for _ in range(300):
            own = random_type(dice, dice.randrange(1, 60))
            self.assertEqual(read_type(write_type(own)), own)
            self.assertEqual(slow_type(write_type(own)), own)


if __name__ == "__main__":
    unittest.main()
