"""Texts of terms: [7], [8], [9] and [48], and what [3] promises of them."""

import itertools
import random
import unittest

from sharefold.errors import InvalidTerm, TooMany
from sharefold.terms import height_of, is_term, size_of
from sharefold.termtexts import first_refused, read_term, signs_on, write_term
from sharefold.texterrors import BadText, InvalidText
from tests.samples import A, B, I, ODD_VALUES, T, call, calls, full, funs, random_terms
from tests.text_oracle import goes_on, slow_read, slow_refused

SIGNS = "".join(chr(code) for code in range(32, 127))


def places_refused(texts):
    return [first_refused(text) for text in texts]


class ReadTest(unittest.TestCase):

    def assert_bad(self, place, text):
        self.assertEqual(first_refused(text), place, text)
        with self.assertRaises(BadText) as caught:
            read_term(text)
        self.assertEqual(caught.exception.place, place, text)

    def test_letters(self):
        for sign in "ABCDEFGHIJKLMNOPQRSTUVWXYZ":
            self.assertEqual(read_term(sign), ("letter", sign))
        for sign in "abcdefghijklmnopqrstuvwxyz":
            self.assertEqual(read_term("\\" + sign + "." + sign), I)

    def test_calls_from_the_left(self):
        self.assertEqual(read_term("A B A"), call(A, B, A))
        self.assertEqual(read_term("A(B A)"), call(A, call(B, A)))
        self.assertEqual(read_term("AB"), call(A, B))
        self.assertEqual(read_term("((A))"), A)

    def test_functions_go_as_far_as_they_can(self):
        self.assertEqual(read_term("\\x.x A"), funs(1, call(("name", 0), A)))
        self.assertEqual(read_term("(\\x.x) A"), call(I, A))
        self.assertEqual(read_term("A \\x.x B"), call(A, funs(1, call(("name", 0), B))))
        self.assertEqual(read_term("A (B \\x.x A) B"), call(A, call(B, funs(1, call(("name", 0), A))), B))

    def test_blanks(self):
        for text in ["\\ x . x", " \\x.x ", "\\x.x", "  \\  x  .  x  ", "( \\x.x )"]:
            self.assertEqual(read_term(text), I)
        self.assertEqual(read_term("\\x.\\y.x y"), funs(2, call(("name", 1), ("name", 0))))
        self.assertEqual(read_term("\\xy.xy"), I)
        self.assert_bad(4, "\\x.x\ty")
        self.assert_bad(3, "\\x y.x")
        self.assert_bad(1, "A\n")

    def test_words_belong_to_the_innermost_function(self):
        self.assertEqual(read_term("\\x.\\x.x"), funs(2, ("name", 0)))
        self.assertEqual(read_term("\\x.(\\x.x) x"), funs(1, call(I, ("name", 0))))
        self.assertEqual(read_term("\\ab.\\a.ab a"), funs(2, call(("name", 1), ("name", 0))))
        self.assertEqual(read_term("\\wxyz.wxyz"), I)

    def test_fixed_points(self):
        own = read_term("\\f.(\\x.f (x x)) (\\x.f (x x))")
        self.assertEqual(read_term("$x.x"), call(own, I))
        self.assertEqual(read_term("\\y.$x.y"), funs(1, call(own, funs(1, ("name", 1)))))
        self.assertEqual(read_term("$x.\\y.x y"), call(own, funs(2, call(("name", 1), ("name", 0)))))
        self.assertEqual(read_term("(A $x.x) B"), call(call(A, call(own, I)), B))
        self.assertEqual(size_of(read_term("$x.A")), 17)
        self.assertEqual(height_of(read_term("$x.A")), 7)

    def test_where_texts_are_refused(self):
        for place, text in [(0, ")"), (0, "."), (0, "x"), (0, "1"), (0, "\n"), (1, "()"), (1, "A."), (1, "Ax"),
                            (1, "A]"), (1, "\\A"), (1, "\\."), (1, "$$"), (3, "\\x.y"), (4, "\\x.xx"), (6, "(\\x.x)x"),
                            (5, "\\abcde.A"), (5, "\\ab.a b"), (6, "\\ab.aba"), (7, "\\ab.\\a.b")]:
            self.assert_bad(place, text)

    def test_texts_that_end_too_early(self):
        for text in ["", "   ", "\\", "\\x", "\\x ", "\\x.", "\\x. ", "$", "(", "(A", "(A ", "((A)", "\\ab.a", "A ("]:
            self.assert_bad(len(text), text)

    def test_hidden_words_go_on_too(self):
        self.assertEqual(read_term("\\xy.\\x.\\x.xy"), funs(3, ("name", 2)))
        self.assert_bad(11, "\\xy.\\x.x xyx")
        self.assert_bad(11, "(\\xy.\\x.xy)xy")

    def test_words_end_with_their_functions(self):
        self.assert_bad(9, "(\\x.x A) x")
        self.assert_bad(12, "(\\x.\\yz.yz) yz")

    def test_60_in_one_another_and_one_more(self):
        self.assertEqual(read_term("(" * 60 + "A" + ")" * 60), A)
        self.assert_bad(60, "(" * 61 + "A" + ")" * 61)
        self.assertIsNone(first_refused("\\a." * 60 + "A"))
        self.assert_bad(180, "\\a." * 61 + "A")
        self.assert_bad(180, "$a." * 60 + "(A)")
        self.assertIsNone(first_refused("(\\a." * 30 + "A" + ")" * 30))
        self.assert_bad(120, "(\\a." * 30 + "$a.A" + ")" * 30)
        self.assertEqual(read_term("(" * 60 + "A" + ")" * 60 + "(B)"), call(A, B))
        self.assertIsNone(first_refused("(" * 59 + "(A)(A) \\x.x" + ")" * 59))
        self.assert_bad(61, "(" * 60 + "A\\x.x")

    def test_2000_characters_and_more(self):
        self.assertEqual(read_term(" " * 1999 + "A"), A)
        self.assertEqual(first_refused(" " * 2000), 2000)
        self.assertEqual(signs_on(" " * 1999 + "A"), signs_on("A"))
        for function in [read_term, first_refused, signs_on]:
            self.assertRaises(InvalidText, function, " " * 2000 + "A")

    def test_too_many_nodes_then_too_high(self):
        for limit, text in [(600, "A" * 2000), (600, "A" * 301), (60, "A" * 61), (60, "\\a." * 60 + "A"),
                            (60, "A(" * 60 + "B" + ")" * 60), (600, "$x.A" + "(A)" * 300)]:
            with self.assertRaises(TooMany) as caught:
                read_term(text)
            self.assertEqual(caught.exception.limit, limit, text)
        self.assertEqual(height_of(read_term("A" * 60)), 60)
        self.assertEqual(height_of(read_term("\\a." * 59 + "A")), 60)
        text = write_term(funs(1, full(300)))
        self.assertEqual(size_of(read_term(text)), 600)
        with self.assertRaises(TooMany) as caught:
            read_term("\\x." + text)
        self.assertEqual(caught.exception.limit, 600)
        self.assertRaises(BadText, read_term, "A" * 1999 + ")")

    def test_functions_and_names_are_measured(self):
        for many, text in [(600, "\\x." + write_term(full(300)).replace("A", "x")),
                           (600, "$x.\\y." + write_term(full(292))),
                           (600, "$x.\\y." + write_term(full(292)).replace("A", "x"))]:
            self.assertEqual(size_of(read_term(text)), many)
            with self.assertRaises(TooMany) as caught:
                read_term("\\z." + text)
            self.assertEqual(caught.exception.limit, 600)
        for text in ["\\a." * 58 + "a", "A(" * 52 + "$x.A" + ")" * 52, "$x." + "A(" * 56 + "x" + ")" * 56]:
            self.assertEqual(height_of(read_term("\\z." + text)), 60)
            with self.assertRaises(TooMany) as caught:
                read_term("\\y.\\z." + text)
            self.assertEqual(caught.exception.limit, 60)

    def test_like_texts_read_whole(self):
        dice = random.Random(7)
        texts = ["".join(dice.choice("\\\\\\$...((()))aab  AB") for _ in range(dice.randrange(1, 12)))
                 for _ in range(2000)]
        texts += ["".join(signs) for many in range(5) for signs in itertools.product("\\.()abA ", repeat=many)]
        for text in texts:
            self.assertEqual(first_refused(text), slow_refused(text), text)
            if first_refused(text) is None:
                self.assertEqual(read_term(text), slow_read(text))

    def test_changed_texts_are_refused_where_nothing_goes_on(self):
        dice = random.Random(8)
        for term in random_terms(8, 60, 14):
            text = write_term(term)
            place = dice.randrange(len(text))
            text = text[:place] + dice.choice(SIGNS) + text[place + dice.randrange(2):]
            self.assertEqual(first_refused(text), slow_refused(text), text)


class SignsOnTest(unittest.TestCase):

    capitals = "ABCDEFGHIJKLMNOPQRSTUVWXYZ"
    small = "abcdefghijklmnopqrstuvwxyz"

    def test_signs(self):
        start = " $(" + self.capitals + "\\"
        for text, signs in [("", start), (" ", start), ("A", start), ("(", start), ("(A", " $()" + self.capitals + "\\"),
                            ("\\", " " + self.small), ("$ ", " " + self.small), ("\\x ", " ."),
                            ("\\x", " ." + self.small), ("\\abcd", " ."), ("\\x.", start + "x"),
                            ("\\x.x", start), ("\\xy.x", "y"), ("\\xy.\\x.x", start + "y"), ("\\xy.(xy", " $()"
                             + self.capitals + "\\"), ("\\xy.\\z.A", start + "xz"), (")", ""), ("A)B", ""), ("x", "")]:
            self.assertEqual(signs_on(text), signs, text)

    def test_depth(self):
        self.assertEqual(signs_on("(" * 60), " " + self.capitals)
        self.assertEqual(signs_on("(" * 60 + "A"), " )" + self.capitals)
        self.assertEqual(signs_on("\\a." * 60), " " + self.capitals + "a")

    def test_refused_at_the_end_goes_on(self):
        self.assertEqual(signs_on("\\ab.a"), "b")
        self.assertEqual(signs_on("\\ab.ab)"), "")
        self.assertEqual(signs_on("\\ab.a)"), "")

    def test_like_texts_read_whole(self):
        dice = random.Random(9)
        for _ in range(60):
            text = "".join(dice.choice("\\\\.(a b)A") for _ in range(dice.randrange(7)))
            expected = "".join(sign for sign in SIGNS if goes_on(text + sign))
            self.assertEqual(signs_on(text), expected if goes_on(text) else "", text)


class WriteTest(unittest.TestCase):

    def test_texts(self):
        for term, text in [(A, "A"), (I, "\\a.a"), (T, "(\\a.a a) ((\\a.a) A)"), (call(A, B, A), "A B A"),
                           (call(A, call(B, A)), "A (B A)"), (call(A, I), "A (\\a.a)"), (call(I, I), "(\\a.a) (\\a.a)"),
                           (funs(2, call(("name", 1), ("name", 0))), "\\a.\\b.a b"),
                           (funs(1, call(I, I, ("name", 0))), "\\a.(\\b.b) (\\b.b) a")]:
            self.assertEqual(write_term(term), text)

    def test_words_of_many_functions(self):
        text = write_term(funs(59, ("name", 0)))
        self.assertEqual(text[:6], "\\a.\\b.")
        self.assertTrue(text.endswith("\\z.\\aa.\\ab." + "".join("\\a%s." % sign for sign in "cdefghijklmnopqrstuvwxyz")
                                      + "\\ba.\\bb.\\bc.\\bd.\\be.\\bf.\\bg.bg"))
        self.assertTrue(write_term(funs(59, ("name", 58))).endswith("\\bg.a"))

    def test_any_length(self):
        self.assertGreater(len(write_term(funs(26, full(26, funs(20, A))))), 2000)

    def test_written_texts_are_read_as_the_term(self):
        terms = random_terms(10, 400, 80) + [funs(59, ("name", n)) for n in range(59)]
        terms += [calls(59, B), call(*[A] * 60), funs(1, full(300))]
        chain = ("name", 0)
        for n in range(29):
            chain = ("call", ("fun", chain), A)
        terms.append(funs(1, chain))
        for term in terms:
            self.assertTrue(is_term(term))
            text = write_term(term)
            if len(text) <= 2000:
                self.assertEqual(read_term(text), term)
        self.assertEqual(len({write_term(term) for term in terms}), len(set(terms)))


class WrongArgumentsTest(unittest.TestCase):

    def test_no_text(self):
        for function in [read_term, first_refused, signs_on]:
            for value in ODD_VALUES + ["A" * 2001]:
                if not isinstance(value, str) or len(value) > 2000:
                    self.assertRaises(InvalidText, function, value)

    def test_no_term(self):
        for value in ODD_VALUES:
            if value != A:
                self.assertRaises(InvalidTerm, write_term, value)


if __name__ == "__main__":
    unittest.main()
