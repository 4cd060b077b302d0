"""Trees of tests: [39] and [84], and what [3] promises of them."""

import random
import unittest

from sharefold.casetrees import parts_tested, row_by_rows, row_by_tree, tree_of
from sharefold.errors import InvalidPatterns, InvalidValue
from tests.program_oracle import slow_fits, slow_tree, tree_size
from tests.program_samples import ANY, KINDS, N, X, Y, kinds_row, make, nested_make, random_pattern, random_value, word
from tests.samples import ODD_VALUES, limit_of

M = make("M")


def random_patterns(dice, most, deep):
    return tuple([random_pattern(dice, deep, ["u", "v", "w", "x1"]) for _ in range(dice.randrange(1, most + 1))])


def forest(tree):
    """All nodes of a tree, with how many parts there are on the way to each."""
    waiting = [(tree, 1)]
    while waiting:
        own, many = waiting.pop()
        yield own, many
        if own[0] == "test":
            waiting += [(own[4], many + len(own[3])), (own[5], many)]


class TreeTest(unittest.TestCase):

    def test_as_the_rows_are_gone_through(self):
        dice = random.Random(381)
        for _ in range(600):
            patterns = random_patterns(dice, 8, 4)
            expected = slow_tree(patterns)
            self.assertEqual(limit_of(tree_of, patterns), None if tree_size(expected) <= 300 else 300)
            if tree_size(expected) <= 300:
                self.assertEqual(tree_of(patterns), expected)
                for own, many in forest(tree_of(patterns)):
                    if own[0] == "test":
                        self.assertEqual(own[3], tuple(range(many, many + KINDS[own[2]])))

    def test_rows_that_never_fit_and_rows_behind_one_that_always_does(self):
        self.assertEqual(tree_of((ANY, make("S", X), N)), ("leaf", 0, ()))
        self.assertEqual(tree_of((X, ANY)), ("leaf", 0, (("x", 0),)))
        self.assertEqual(tree_of((N, N)), ("test", 0, "N", (), ("leaf", 0, ()), ("none",)))
        self.assertEqual(tree_of((make("S", N), make("S", N), make("S", M))),
                         ("test", 0, "S", (1,), ("test", 1, "N", (), ("leaf", 0, ()),
                                                 ("test", 1, "M", (), ("leaf", 2, ()), ("none",))), ("none",)))

    def test_a_part_that_is_settled(self):
        # As another kind: the row is lost; as not this kind: it is tested for another one.
        tree = tree_of((N, M, make("S", ANY), N))
        self.assertEqual(tree, ("test", 0, "N", (), ("leaf", 0, ()), ("test", 0, "M", (), ("leaf", 1, ()), (
            "test", 0, "S", (1,), ("leaf", 2, ()), ("none",)))))
        tree = tree_of((make("P", N, X), make("P", Y, N), ANY))
        self.assertEqual(tree, ("test", 0, "P", (1, 2), ("test", 1, "N", (), ("leaf", 0, (("x", 2),)), (
            "test", 2, "N", (), ("leaf", 1, (("y", 1),)), ("leaf", 2, ()))), ("leaf", 2, ())))

    def test_numbers_are_used_up_in_yes_alone(self):
        tree = tree_of((make("P", make("S", X), ANY), make("P", make("P", ANY, ANY), make("S", Y))))
        yes = tree[4]
        self.assertEqual((tree[3], yes[1:4], yes[5][1:4]), ((1, 2), (1, "S", (3,)), (1, "P", (3, 4))))
        self.assertEqual(yes[5][4][1:4], (2, "S", (5,)))

    def test_words_from_the_left(self):
        self.assertEqual(tree_of((make("P", make("S", X), Y),))[4][4], ("leaf", 0, (("x", 3), ("y", 2))))
        self.assertEqual(tree_of((make("P", Y, make("S", X)),))[4][4], ("leaf", 0, (("y", 1), ("x", 3))))


class RowsTest(unittest.TestCase):

    def test_the_first_row_that_fits(self):
        dice = random.Random(382)
        fitting = 0
        for _ in range(800):
            patterns = random_patterns(dice, 5, 4)
            value = random_value(dice, 5)
            rows = [slow_fits(pattern, value) for pattern in patterns]
            found = [(row, tuple(pairs)) for row, pairs in enumerate(rows) if pairs is not None]
            expected = found[0] if found else None
            self.assertEqual(row_by_rows(patterns, value), expected)
            if limit_of(tree_of, patterns) is None:
                self.assertEqual(row_by_tree(patterns, value), expected)
                self.assertEqual(parts_tested(patterns, value), self.parts_on(tree_of(patterns), {0: value}))
            fitting += bool(found and found[0][0] > 0)
        self.assertGreater(fitting, 100)

    def parts_on(self, tree, parts):
        if tree[0] != "test":
            return ()
        own = parts[tree[1]]
        if own[1] == tree[2]:
            return (tree[1],) + self.parts_on(tree[4], {**parts, **dict(zip(tree[3], own[2]))})
        return (tree[1],) + self.parts_on(tree[5], parts)

    def test_a_part_is_tested_for_each_kind(self):
        patterns = (N, M, make("S", N), make("S", X))
        self.assertEqual([parts_tested(patterns, own) for own in [N, M, make("S", N), make("S", M), make("P", N, N)]],
                         [(0,), (0, 0), (0, 0, 0, 1), (0, 0, 0, 1), (0, 0, 0)])
        self.assertEqual([row_by_tree(patterns, own) for own in [M, make("S", M), make("P", N, N)]],
                         [(1, ()), (3, (("x", M),)), None])
        self.assertEqual(parts_tested((ANY, N), N), ())


class BoundsTest(unittest.TestCase):

    def test_1_to_8_patterns(self):
        for many in range(11):
            if 1 <= many <= 8:
                self.assertEqual(tree_of((ANY,) * many), ("leaf", 0, ()))
            else:
                self.assertRaises(InvalidPatterns, tree_of, (ANY,) * many)

    def test_20_deep_and_deeper(self):
        for deep in [19, 20, 21]:
            for place in range(2):
                patterns = [(nested_make(deep), ANY), (ANY, nested_make(deep))][place]
                if deep <= 20:
                    self.assertEqual(row_by_rows(patterns, nested_make(deep)), (0, ()))
                    self.assertEqual(row_by_tree(patterns, nested_make(deep)), (0, ()))
                    self.assertEqual(len(parts_tested(patterns, nested_make(deep))), deep if place == 0 else 0)
                else:
                    self.assertRaises(InvalidPatterns, row_by_rows, patterns, None)
            if deep > 20:
                for function in [row_by_rows, row_by_tree, parts_tested]:
                    self.assertRaises(InvalidValue, function, (ANY,), nested_make(deep))
        # A pattern that is deeper than the value.
        self.assertEqual(row_by_tree((nested_make(20), X), nested_make(19)), (1, (("x", nested_make(19)),)))

    def test_12_kinds_and_more(self):
        rows = kinds_row(13)
        value = make("Box", *rows[8:11])
        self.assertEqual(row_by_rows(tuple(rows[:8]), value), None)
        self.assertEqual(row_by_tree(tuple(rows[:8]), value), None)
        # As many as are in both together.
        for function in [row_by_rows, row_by_tree, parts_tested]:
            self.assertRaises(InvalidValue, function, tuple(rows[:8]), make("Box", *rows[8:12]))
        many = make("Two", make("Box", *rows[:4]), make("Box", *rows[4:7]), make("Box", *rows[7:11]))
        self.assertRaises(InvalidPatterns, tree_of, (many,))
        twelve = make("Two", make("Box", *rows[:4]), make("Box", *rows[4:8]), make("Box", *rows[6:10]))
        self.assertEqual(row_by_rows((twelve,), twelve), (0, ()))
        thirteen = make("Two", make("Box", *rows[:4]), make("Box", *rows[4:8]), make("Box", *rows[7:11]))
        self.assertRaises(InvalidPatterns, tree_of, (thirteen,))
        self.assertRaises(InvalidValue, row_by_rows, (ANY,), thirteen)
        self.assertEqual(row_by_rows((ANY,), twelve), (0, ()))
        self.assertRaises(InvalidValue, row_by_rows, (make("Other"), ANY), twelve)

    def test_one_number_of_parts(self):
        self.assertRaises(InvalidPatterns, tree_of, (make("S", ANY), make("S")))
        self.assertRaises(InvalidPatterns, tree_of, (make("S", make("S")),))
        for function in [row_by_rows, row_by_tree, parts_tested]:
            self.assertRaises(InvalidValue, function, (ANY,), make("P", make("S", N), make("S")))
            # Both are right by themselves.
            self.assertRaises(InvalidValue, function, (make("S", ANY), ANY), make("S"))
            self.assertRaises(InvalidValue, function, (make("S", ANY), ANY), make("P", make("S"), N))

    def test_trees_of_300_nodes_and_more(self):
        # 149 tests, in rows that are gone through one behind the other, and one more.
        for tests, limit in [(149, None), (150, 300), (160, 300)]:
            patterns = self.patterns_of(tests)
            self.assertEqual(limit_of(tree_of, patterns), limit)
            for function in [row_by_tree, parts_tested]:
                self.assertEqual(limit_of(function, patterns, M), limit)
            self.assertEqual(row_by_rows(patterns, M), None)
            if limit is None:
                self.assertEqual(tree_size(tree_of(patterns)), 2 * tests + 1)

    def patterns_of(self, tests):
        """One pattern with as many constructors as there are to be tests."""
        count = [tests]

        def grown(deep):
            count[0] -= 1
            parts = []
            for _ in range(3):
                parts.append(grown(deep - 1) if count[0] > 0 and deep > 1 else ANY)
            return make("T", *parts)

        patterns = (grown(12),)
        self.assertEqual(count[0], 0)
        return patterns

    def test_trees_that_are_far_too_great(self):
        rows = []
        for at in range(8):
            rows.append(make("T", *[make("T", *[N if at // 4 == one and at % 4 == other else ANY for other in range(4)])
                                    for one in range(4)]))
        self.assertEqual(limit_of(tree_of, tuple(rows)), 300)
        deep = ANY
        for _ in range(6):
            deep = make("T", deep, deep, deep, deep)
        self.assertEqual(limit_of(tree_of, (deep, deep)), 300)
        self.assertEqual(row_by_rows((deep, ANY), N), (1, ()))


class WrongArgumentsTest(unittest.TestCase):

    def test_patterns(self):
        for value in ODD_VALUES + [ANY, (ANY, None), [ANY], (["any"],), (("any", 0),), (("word", "X"),), (("word",),),
                                   (("word", 1),), (("make", "N"),), (("make", "n", ()),), (("make", "N", []),),
                                   (("make", "N", (None,)),), (make("K", *[ANY] * 5),), (make("P", X, X),), (N, make("P", X, X)),
                                   (("fun", "x", X),), (("none",),), (make("S", ("make", "S", [])),), N]:
            self.assertRaises(InvalidPatterns, tree_of, value)
            for function in [row_by_rows, row_by_tree, parts_tested]:
                self.assertRaises(InvalidPatterns, function, value, None)
        # A word may stand in two patterns.
        self.assertEqual(tree_of((X, X)), ("leaf", 0, (("x", 0),)))
        self.assertEqual(tree_of((make("P", *[ANY] * 4),))[4], ("leaf", 0, ()))

    def test_values(self):
        for value in ODD_VALUES + [ANY, X, (N,), ["make", "N", ()], ("make", "N", []), ("make", "n", ()), ("make", "N"), make("S", X),
                                   make("S", ANY), make("S", None), make("K", *[N] * 5), ("make", "N", (), ()), ("make", 1, ())]:
            for function in [row_by_rows, row_by_tree, parts_tested]:
                self.assertRaises(InvalidValue, function, (ANY,), value)
        self.assertEqual(row_by_rows((word("a"),), make("K", *[N] * 4)), (0, (("a", make("K", *[N] * 4)),)))

    def test_values_ahead_of_trees_that_are_too_great(self):
        patterns = self.great()
        for function in [row_by_tree, parts_tested]:
            self.assertRaises(InvalidValue, function, patterns, None)
            self.assertRaises(InvalidValue, function, patterns, make("T", N))
            self.assertEqual(limit_of(function, patterns, N), 300)

    def great(self):
        deep = ANY
        for _ in range(5):
            deep = make("T", deep, deep, deep, deep)
        return (deep,)


if __name__ == "__main__":
    unittest.main()
