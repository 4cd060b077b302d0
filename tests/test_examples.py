"""The examples of the interface, as they are printed there."""

import doctest
import unittest

EXAMPLES = r'''
[45]

>>> from sharefold.terms import *
>>> I, W = ("fun", ("name", 0)), ("fun", ("call", ("name", 0), ("name", 0)))
>>> T = ("call", W, ("call", I, ("letter", "A")))
>>> [is_term(T), is_term(("name", 0)), size_of(T), height_of(T), kinds_of(T)[:3], part_at(T, 2), above(T, 6), fun_of(T, 4), names_of(T, 1)]
[True, False, 9, 4, ['call', 'fun', 'call'], ('call', ('name', 0), ('name', 0)), 5, 1, (3, 4)]

[46]

>>> from sharefold.steps import *
>>> [redexes(T), is_normal(I), leftmost(T), leftmost(I), step(T, 5)]
[[0, 5], True, 0, None, ('call', ('fun', ('call', ('name', 0), ('name', 0))), ('letter', 'A'))]
>>> [step(T, 0) == ("call", ("call", I, ("letter", "A")), ("call", I, ("letter", "A"))), step(("fun", ("call", ("fun", ("fun", ("name", 1))), ("name", 0))), 1)]
[True, ('fun', ('fun', ('name', 1)))]
>>> origins(T, 0)
[2, 5, 6, 7, 8, 5, 6, 7, 8]

[47]

>>> from sharefold.ways import *
>>> [is_way(T, (0, 1)), is_way(T, (1,)), walk(T, (5, 0)), len(terms_along(T, (0, 1))), leftmost_way(T, 9)[0], normal_form(T, 9), normal_form(T, 2)]
[True, False, ('call', ('letter', 'A'), ('letter', 'A')), 3, (0, 1, 2), ('call', ('letter', 'A'), ('letter', 'A')), None]

[48]

>>> from sharefold.termtexts import *
>>> [read_term("\\x. x (A)"), write_term(read_term("(\\y.y y) \\x.\\z.x")), first_refused("\\xy.x"), first_refused("\\x.xx"), first_refused("A)"), signs_on("\\ab")]
[('fun', ('call', ('name', 0), ('letter', 'A'))), '(\\a.a a) (\\a.\\b.a)', 5, 4, 1, ' .abcdefghijklmnopqrstuvwxyz']
>>> [write_term(read_term("$x.A")), read_term("A B C") == ("call", ("call", ("letter", "A"), ("letter", "B")), ("letter", "C"))]
['(\\a.(\\b.a (b b)) (\\b.a (b b))) (\\a.A)', True]

[49]

>>> from sharefold.places import *
>>> BT = read_term("(\\x.x) (A B)")
>>> [write_term(BT), places_of(BT), node_at(BT, 8), redex_marks(BT) == "^" + " " * 11]
['(\\a.a) (A B)', [(0, 12), (1, 5), (4, 5), (8, 11), (8, 9), (10, 11)], 4, True]

[50]

>>> from sharefold.waytexts import *
>>> [write_way(BT, (0,)), read_way("(\\x.x) B\n0: B\n"), write_row((3, 0)), read_row("[3,0]")]
['(\\a.a) (A B)\n0: A B\n', (('call', ('fun', ('name', 0)), ('letter', 'B')), (0,)), '[3,0]', (3, 0)]
'''


class ExamplesTest(unittest.TestCase):

    def test_examples(self):
        test = doctest.DocTestParser().get_doctest(EXAMPLES, {}, "interface", None, 0)
        said = []
        results = doctest.DocTestRunner(verbose=False).run(test, out=said.append)
        self.assertEqual(results.failed, 0, "".join(said))
        self.assertGreaterEqual(results.attempted, 15)


if __name__ == "__main__":
    unittest.main()
