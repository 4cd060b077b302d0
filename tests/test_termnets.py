"""The nets of terms: [18] and [59], and what [3] promises of reading them."""

import unittest

from sharefold.errors import InvalidTerm, TooMany
from sharefold.netshapes import is_net
from sharefold.termnets import net_of
from sharefold.terms import size_of
from tests.net_oracle import read_net
from tests.samples import A, B, I, ODD_VALUES, T, W, call, calls, full, funs, limit_of, random_terms

ROOT = (-1, 0)


class NetOfTest(unittest.TestCase):

    def test_letters_and_functions(self):
        self.assertEqual(net_of(A), ((0, 0), (("letter", "A", (ROOT,)),)))
        self.assertEqual(net_of(I), ((0, 0), (("fun", 0, (ROOT, (1, 1), (1, 0))), ("open", 0, ((0, 2), (0, 1))))))
        # A function without names is joined to nothing there.
        self.assertEqual(net_of(funs(1, B)), ((0, 0), (("fun", 0, (ROOT, (1, 0), ())), ("letter", "B", ((0, 1),)))))

    def test_arguments_have_boxes(self):
        self.assertEqual(net_of(funs(1, call(A, ("name", 0)))), (
            (0, 0), (("fun", 0, (ROOT, (1, 1), (4, 0))), ("call", 0, ((2, 0), (0, 1), (3, 1))),
                     ("letter", "A", ((1, 0),)), ("open", 1, ((4, 1), (1, 2))), ("box", 0, ((0, 2), (3, 0))))))

    def test_names_in_both_parts_have_fans(self):
        self.assertEqual(net_of(call(W, A)), (
            (0, 1), (("call", 0, ((1, 0), ROOT, (7, 0))), ("fun", 0, ((0, 0), (2, 1), (4, 0))),
                     ("call", 0, ((3, 1), (1, 1), (5, 1))), ("open", 0, ((4, 1), (2, 0))),
                     ("fan", 0, ((1, 2), (3, 0), (6, 0))), ("open", 1, ((6, 1), (2, 2))),
                     ("box", 0, ((4, 2), (5, 0))), ("letter", "A", ((0, 2),)))))

    def test_levels(self):
        # In an argument of an argument levels are 2; each call's box and fan have its own level.
        term = funs(1, call(A, call(("name", 0), ("name", 0))))
        self.assertEqual(net_of(term), (
            (0, 0), (("fun", 0, (ROOT, (1, 1), (6, 0))), ("call", 0, ((2, 0), (0, 1), (3, 1))),
                     ("letter", "A", ((1, 0),)), ("call", 1, ((4, 1), (1, 2), (7, 1))), ("open", 1, ((5, 1), (3, 0))),
                     ("fan", 1, ((6, 1), (4, 0), (8, 0))), ("box", 0, ((0, 2), (5, 0))),
                     ("open", 2, ((8, 1), (3, 2))), ("box", 1, ((5, 2), (7, 0))))))

    def test_ends_of_several_functions(self):
        term = funs(2, call(A, call(("name", 1), ("name", 0))))
        kinds = [row[:2] for row in net_of(term)[1]]
        self.assertEqual(kinds, [("fun", 0), ("fun", 0), ("call", 0), ("letter", "A"), ("call", 1), ("open", 1), ("box", 0),
                                 ("open", 2), ("box", 1), ("box", 0)])
        self.assertEqual(read_net(net_of(term)), term)

    def test_inner_functions_have_the_level_of_their_place(self):
        self.assertEqual([row[:2] for row in net_of(call(I, I))[1]],
                         [("call", 0), ("fun", 0), ("open", 0), ("fun", 1), ("open", 1)])

    def test_nets_are_read_as_their_terms(self):
        for term in random_terms(91, 400, 60) + [T, funs(30, full(8, ("name", 7))), call(W, W), calls(39, I)]:
            if limit_of(net_of, term) is None:
                net = net_of(term)
                self.assertIs(is_net(net), True)
                self.assertEqual(read_net(net), term)

    def test_how_many_nodes_of_each_kind(self):
        for term in random_terms(92, 60, 60):
            if limit_of(net_of, term) is not None:
                continue
            kinds = [row[0] for row in net_of(term)[1]]
            boxes = sum(len(free_in(own[2])) for own in parts_of(term) if own[0] == "call")
            fans = sum(len(free_in(own[1]) & free_in(own[2])) for own in parts_of(term) if own[0] == "call")
            self.assertEqual((kinds.count("box"), kinds.count("fan")), (boxes, fans))
            self.assertEqual(len(kinds), size_of(term) + boxes + fans)


def parts_of(term):
    return [term] + [inner for part in term[1:] if isinstance(part, tuple) for inner in parts_of(part)]


def free_in(term):
    """The functions outside of a term that have names in it, by how many are behind others."""
    if term[0] == "name":
        return {term[1]}
    if term[0] == "fun":
        return {n - 1 for n in free_in(term[1]) if n}
    return set().union(*[free_in(part) for part in term[1:] if isinstance(part, tuple)])


class TooGreatTest(unittest.TestCase):

    def test_600_nodes_and_one_more(self):
        self.assertEqual(len(net_of(funs(1, full(300)))[1]), 600)
        # One name in an argument makes a box more than the term has nodes.
        within = funs(2, call(full(298), ("name", 0)))
        beyond = funs(1, call(full(299), ("name", 0)))
        self.assertEqual([size_of(within), size_of(beyond)], [599, 600])
        self.assertEqual(len(net_of(within)[1]), 600)
        self.assertEqual(limit_of(net_of, beyond), 600)

    def test_an_index_of_39_and_one_more(self):
        self.assertIsNone(limit_of(net_of, calls(39, I)))
        self.assertEqual(limit_of(net_of, calls(40, I)), 39)
        # Letters have no index of this sort.
        self.assertIsNone(limit_of(net_of, calls(40, A)))
        self.assertEqual(limit_of(net_of, calls(41, A)), 39)
        self.assertEqual(max(row[1] for row in net_of(calls(40, A))[1] if row[0] == "call"), 39)
        self.assertIsNone(limit_of(net_of, call(*[I] * 50)))

    def test_nodes_come_ahead_of_indices(self):
        names = call(*[("name", n) for n in range(15)])
        self.assertEqual(limit_of(net_of, funs(1, calls(41, ("name", 0)))), 39)
        self.assertEqual(limit_of(net_of, funs(15, calls(28, names))), None)
        self.assertEqual(limit_of(net_of, funs(2, calls(41, full(120, ("name", 1))))), 600)


class WrongArgumentsTest(unittest.TestCase):

    def test_no_term(self):
        for value in ODD_VALUES:
            if value != A:
                self.assertRaises(InvalidTerm, net_of, value)


if __name__ == "__main__":
    unittest.main()
