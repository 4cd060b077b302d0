"""The examples of the interface, as they are printed there."""

import doctest
import unittest

EXAMPLES = r'''
[45]

>>> from sharefold.terms import *
>>> I, W = ("fun", ("name", 0)), ("fun", ("call", ("name", 0), ("name", 0)))
>>> T = ("call", W, ("call", I, ("letter", "A")))
>>> [is_term(T), is_term(("name", 0)), size_of(T), height_of(T), kinds_of(T)[:3], part_at(T, 2), above(T, 6), fun_of(T, 4), names_of(T, 1)]
[True, False, 9, 4, ['call', 'fun', 'call'], ('call', ('name', 0), ('name', 0)), 5, 1, (3, 4)]

[46]

>>> from sharefold.steps import *
>>> [redexes(T), is_normal(I), leftmost(T), leftmost(I), step(T, 5)]
[[0, 5], True, 0, None, ('call', ('fun', ('call', ('name', 0), ('name', 0))), ('letter', 'A'))]
>>> [step(T, 0) == ("call", ("call", I, ("letter", "A")), ("call", I, ("letter", "A"))), step(("fun", ("call", ("fun", ("fun", ("name", 1))), ("name", 0))), 1)]
[True, ('fun', ('fun', ('name', 1)))]
>>> origins(T, 0)
[2, 5, 6, 7, 8, 5, 6, 7, 8]

[47]

>>> from sharefold.ways import *
>>> [is_way(T, (0, 1)), is_way(T, (1,)), walk(T, (5, 0)), len(terms_along(T, (0, 1))), leftmost_way(T, 9)[0], normal_form(T, 9), normal_form(T, 2)]
[True, False, ('call', ('letter', 'A'), ('letter', 'A')), 3, (0, 1, 2), ('call', ('letter', 'A'), ('letter', 'A')), None]

[48]

>>> from sharefold.termtexts import *
>>> [read_term("\\x. x (A)"), write_term(read_term("(\\y.y y) \\x.\\z.x")), first_refused("\\xy.x"), first_refused("\\x.xx"), first_refused("A)"), signs_on("\\ab")]
[('fun', ('call', ('name', 0), ('letter', 'A'))), '(\\a.a a) (\\a.\\b.a)', 5, 4, 1, ' .abcdefghijklmnopqrstuvwxyz']
>>> [write_term(read_term("$x.A")), read_term("A B C") == ("call", ("call", ("letter", "A"), ("letter", "B")), ("letter", "C"))]
['(\\a.(\\b.a (b b)) (\\b.a (b b))) (\\a.A)', True]

[49]

>>> from sharefold.places import *
>>> BT = read_term("(\\x.x) (A B)")
>>> [write_term(BT), places_of(BT), node_at(BT, 8), redex_marks(BT) == "^" + " " * 11]
['(\\a.a) (A B)', [(0, 12), (1, 5), (4, 5), (8, 11), (8, 9), (10, 11)], 4, True]

[50]

>>> from sharefold.waytexts import *
>>> [write_way(BT, (0,)), read_way("(\\x.x) B\n0: B\n"), write_row((3, 0)), read_row("[3,0]")]
['(\\a.a) (A B)\n0: A B\n', (('call', ('fun', ('name', 0)), ('letter', 'B')), (0,)), '[3,0]', (3, 0)]

[51]

>>> from sharefold.typetexts import *
>>> [write_type(("to", ("to", ("open", 0), ("open", 26)), ("open", 0))), read_type("a>b>a")]
['(a>aa)>a', ('to', ('open', 0), ('to', ('open', 1), ('open', 0)))]

[53]

>>> from sharefold.wordbooks import *
>>> CB = ((0,), (1,), (0, ("over", 1), 2), (("under", 2), ("over", 0)))
>>> [is_book(CB), is_book(((0,), (0,))), needs_of(CB, 3), word_added(CB, (1,))[1], same_word(CB, 1, ((1,),), 0)]
[True, False, (0, 1, 2), 1, True]

[54]

>>> from sharefold.folds import *
>>> CI = ("call", ("fun", ("name", 0)), ("letter", "A"))
>>> [begun(CI)[1:], families_of(begun(CI)), word_at(begun(CI), 3)]
[((0, 1, 2, 3), ((0,), (1,), (2,), (3,))), ((1, (0,)),), (3,)]

[55]

>>> from sharefold.familysteps import *
>>> [marked_step(begun(CI), 0)[1:], family_way(begun(("call", CI[1], CI)), 1), marked_way(begun(("call", CI[1], CI)), (3, 0))[0]]
[((4,), ((0,), (1,), (2,), (3,), (0, ('over', 1), 2, ('under', 1), 3))), (0,), ('letter', 'A')]

[56]

>>> from sharefold.familyways import *
>>> CP = ("call", ("fun", ("call", ("name", 0), ("name", 0))), CI)
>>> [leftmost_family(begun(CP)), unfolded(begun(CP), 9)[0], plain_way(begun(CP), (1, 6)), is_family_way(begun(CP), (6, 1)), is_family_way(begun(CP), (1, 1))]
[1, (1, 6), (0, 5, 1), True, False]

[57]

>>> from sharefold.histories import *
>>> [history_of(begun(CP), 1), history_of(walked(begun(CP), (1,)), 6), again(CP, (1,), 6), relatives(CP, (), 5, (0,), 1), relatives(CP, (), 0, (), 5)]
[(), (), ((), (5,)), True, False]

[58]

>>> from sharefold.netshapes import *
>>> DN = ((0, 1), (("open", 2, ((1, 0), (-1, 0))), ("letter", "A", ((0, 0),))))
>>> [is_net(DN), is_net(((), ())), is_raw_net(((1, 0), (("letter", "B", ((),)), ("letter", "A", ((-1, 0),)))))]
[True, True, True]
>>> [plain_net(((1, 0), (("letter", "B", ((),)), ("letter", "A", ((-1, 0),))))), plain_order(((1, 0), (("letter", "B", ((),)), ("letter", "A", ((-1, 0),)))))]
[((0, 0), (('letter', 'A', ((-1, 0),)),)), (1,)]

[59]

>>> from sharefold.termnets import *
>>> net_of(("call", ("fun", ("name", 0)), ("letter", "A")))
((0, 1), (('call', 0, ((1, 0), (-1, 0), (3, 0))), ('fun', 0, ((0, 0), (2, 1), (2, 0))), ('open', 0, ((1, 2), (1, 1))), ('letter', 'A', ((0, 2),))))

[60]

>>> from sharefold.liveedges import *
>>> [live_edges(DN), edge_sort(DN, (0, 1)), live_edges(net_of(("call", ("fun", ("name", 0)), ("letter", "A"))))]
[((0, 1),), 'letter', ((0, 1),)]

[61]

>>> from sharefold.doings import *
>>> [done_paper(DN, (0, 1)), done_paper(net_of(("call", ("fun", ("name", 0)), ("letter", "A"))), (0, 1))]
[(((0, 0), (('letter', 'A', ((-1, 0),)),)), ((1, 1),)), (((0, 1), (('open', 0, ((1, 0), (-1, 0))), ('letter', 'A', ((0, 0),)))), ((2, 0), (3, 0)))]

[62]

>>> from sharefold.contexts import *
>>> [marked((), 1, 2), unmarked(((), (2, ())), 1), unmarked((), 0), opened(((1, ()),), 0), closed(((), (1, ())), 0), closed(((1, ()),), 0)]
[((), (2, ())), (2, ()), None, ((), (1, ())), ((1, ()),), None]
>>> [paired(((1, ()),), 0), unpaired((("pair", (1, ()), ()),), 0), paired((), 3), unpaired(((1, ()),), 0), unpaired(((), (1, ())), 0)]
[(('pair', (1, ()), ()),), ((1, ()),), (), None, ((), (), (1, ()))]

[63]

>>> from sharefold.moves import *
>>> ET = ("call", ("fun", ("call", ("name", 0), ("name", 0))), ("letter", "A"))
>>> EN = net_of(ET)
>>> [EN[1][4][:2], moved(EN, (4, 1), ()), moved(EN, (4, 0), ()), walked(EN, (3, 1), ()), walked(EN, (5, 1), ())]
[('fan', 0), ('on', (1, 2), ((1, ()),)), ('stuck', (4, 0), ()), ('met', (1, 2), ((1, ()),), 3), ('met', (1, 2), ((2, ()),), 4)]

[64]

>>> from sharefold.readings import *
>>> [read_term(EN) == ET, places_of(EN), moves_of(EN), stuck_at(EN), is_reading(EN, (ET, places_of(EN)))]
[True, ((0, ()), (1, ()), (2, ()), (1, ((1, ()),)), (1, ((2, ()),)), (7, ())), 11, None, True]
>>> [stuck_at(((), ())), stuck_at(((0, 1), (("call", 0, ((), (-1, 0), ())),)))]
[(), ()]

[65]

>>> from sharefold.wanted import *
>>> [passed_edges(EN), passed_by(EN, (0, 1)), wanted_edge(EN), wanted_way(EN), wanted_edge(net_of(("letter", "A")))]
[((0, 1),), (1,), (0, 1), (0, ()), None]

[66]

>>> from sharefold.carried import *
>>> EM = done(EN, (0, 1))
>>> [places_of(EM), carried_places(EM, (2, 3)), places_of(done(EM, (2, 3))), calls_through(EN, (0, 1))]
[((0, ()), (3, ((1, ()),)), (3, ((2, ()),))), ((0, ()), (2, ()), (5, ())), ((0, ()), (2, ()), (5, ())), (0,)]

[67]

>>> from sharefold.netruns import *
>>> FI, FW = ("fun", ("name", 0)), ("fun", ("call", ("name", 0), ("name", 0)))
>>> FT = ("call", FW, ("call", FI, ("letter", "A")))
>>> [is_run(FT, ()), is_run(FT, ((0, 0),)), term_behind(FT, ()) == FT, term_behind(FT, run_by(FT, (0,) * 60)), net_behind(FT, ()) == net_of(FT)]
[True, False, True, ('call', ('letter', 'A'), ('letter', 'A')), True]

[68]

>>> from sharefold.netlots import *
>>> from sharefold.ways import walk
>>> [run_lots(FT, run_by(FT, (0,))), run_lots(FT, run_by(FT, (1,))), run_way(FT, run_by(FT, (3,))), counts_of(FT, run_by(FT, (0,)))]
[[(0,)], [(5,)], (5,), (1, 0, 0, 0)]
>>> walk(FT, run_way(FT, run_by(FT, (0,) * 60)))
('call', ('letter', 'A'), ('letter', 'A'))

[69]

>>> from sharefold.netweights import *
>>> [weight_behind(FT, ()), passes_behind(FT, ()), weight_behind(FI, ()), wanted_behind(FI, ()), passes_behind(FI, ())]
[0, (), -1, None, None]

[70]

>>> from sharefold.netfolds import *
>>> [folds_of(FT, 1), folds_of(FT, 9)[0], folds_to_normal(FT, 9), folds_to_normal(FT, 1), fold_behind(FI, ())]
[([(0,)], ('call', ('call', ('fun', ('name', 0)), ('letter', 'A')), ('call', ('fun', ('name', 0)), ('letter', 'A')))), [(0,), (1, 5)], 2, None, None]

[71]

>>> from sharefold.foldfamilies import *
>>> [agreement(FT, 0), agreement(FT, 9)[1], shows_agreement(FT, agreement(FT, 1)), shows_agreement(FT, ((0, (0, 5), FT),))]
[(), (1, (1, 5), ('call', ('letter', 'A'), ('letter', 'A'))), True, False]

[72]

>>> from sharefold.types import *
>>> GA, GB = ("open", 0), ("to", ("open", 3), ("to", ("open", 1), ("open", 3)))
>>> [is_type(GB), is_type(("to", GA)), type_height(GB), opens_of(GB), plain_types((GB, ("open", 1)))[0] == ("to", GA, ("to", ("open", 1), GA)), filled((GA,), (GB,)) == (GB,)]
[True, False, 2, (1, 3), True, True]

[73]

>>> from sharefold.typings import *
>>> [types_of(I) == ("types", (("to", GA, GA), GA)), types_of(W)[0], has_types(W), takes_types(W, ("clash", (), ((1, 0),))), takes_types(W, ("clash", (), ((1, 1),))), fits_typing(I, (("to", I, I), I))]
[True, 'clash', False, True, False, False]

[74]

>>> from sharefold.instances import *
>>> [fillings_of(I, (("to", GB, GB), GB)) == (GB,), open_count(I), open_count(("call", ("letter", "A"), ("letter", "A")))]
[True, 1, 2]

[75]

>>> from sharefold.typedsteps import *
>>> types_behind(("call", I, I), types_of(("call", I, I))[1], 0) == (("to", GA, GA), GA)
True

[76]

>>> from sharefold.degrees import *
>>> GT = ("call", ("call", I, I), ("call", I, ("letter", "A")))
>>> [degree_counts(GT), degree_redex(GT), degree_way(GT, 9), degree_of(GT, 1), open_count(GT)]
[((1, 1), (2, 1)), 1, ((1, 3, 0), (2, 1, 1), ('letter', 'A')), 2, 1]

[77]

>>> from sharefold.fragments import *
>>> [fun_count(GT), is_affine(GT), is_linear(W), is_flat(W), is_flat(GT), affine_lengths(GT)]
[3, True, False, False, True, (3, 3, ('letter', 'A'))]

[78]

>>> from sharefold.residuals import *
>>> HI, HW = ("fun", ("name", 0)), ("fun", ("call", ("name", 0), ("name", 0)))
>>> HT = ("call", HW, ("call", HI, ("letter", "A")))
>>> [left_behind(HT, 0, (0, 5)), left_behind(HT, 5, (0, 5)), left_along(HT, (0, 1), (5,))]
[(1, 5), (0,), (2,)]

[79]

>>> from sharefold.developments import *
>>> [development(HT, (0, 5)), developed(HT, (0, 5)), is_development(HT, (0, 5), (0, 1, 2)), is_development(HT, (0, 5), (0, 1)), full_way(HT)]
[(5, 0), ('call', ('letter', 'A'), ('letter', 'A')), True, False, (5, 0)]

[80]

>>> from sharefold.meets import *
>>> [way_behind(HT, (0,), (5,)), meeting(HT, (0,), (5,)), takes_meeting(HT, (0,), (5,), ((1, 2), (0,))), takes_meeting(HT, (0,), (5,), ((5,), (0,)))]
[((0,), (1, 5)), ((5, 1), (0,)), True, False]

[81]

>>> from sharefold.standards import *
>>> [first_unsorted(HT, (5, 0)), is_standard(HT, (0, 1, 2)), is_standard(HT, (0, 5, 1)), first_done(HT, (5, 0)), standard_way(HT, (5, 0))]
[(0, 1, 0), True, False, 0, (0, 1, 2)]

[82]

>>> from sharefold.overtakes import *
>>> [len(full_steps(HT, 2)), full_steps(HT, 2)[2] == full_steps(HT, 1)[1], takes_overtaking(HT, (0,), overtaking(HT, (0,))), takes_overtaking(HT, (0,), (1,))]
[3, True, True, False]

[83]

>>> from sharefold.programs import *
>>> IN, IF = ("make", "N", ()), ("fun", "a", ("case", ("word", "a"), ((("make", "S", (("word", "b"),)), ("word", "b")), (("any",), ("make", "N", ())))))
>>> IP = ("call", IF, ("make", "S", (IN,)))
>>> [is_program(IP), is_program(("word", "a")), program_kinds(IP)]
[True, False, (('N', 0), ('S', 1))]

[84]

>>> from sharefold.casetrees import *
>>> IT = (("make", "S", (("make", "N", ()),)), ("make", "S", (("word", "b"),)))
>>> tree_of(IT)
('test', 0, 'S', (1,), ('test', 1, 'N', (), ('leaf', 0, ()), ('leaf', 1, (('b', 1),))), ('none',))
>>> [row_by_rows(IT, ("make", "S", (IN,))), row_by_tree(IT, IN), parts_tested(IT, ("make", "S", (IN,)))]
[(0, ()), None, (0, 1)]

[85]

>>> from sharefold.cores import *
>>> core_of(IP)
('let', 0, ('let', 1, ('make', 'N', ()), ('make', 'S', (1,))), ('call', ('fun', 2, ('test', 2, 'S', (3,), ('word', 3), ('make', 'N', ()))), 0))

[86]

>>> from sharefold.needruns import *
>>> run = NeedRun(IP, 1)
>>> [run.step(0), run.hand_states(), run.rounds(99), run.state(), run.answer(), run.counts(), run.cell_states()]
[True, (('work', 0),), 10, 'over', ('make', 'N', ()), (11, 2, 2, 1), ('value', 'value')]

[87]

>>> from sharefold.needways import *
>>> [answer_by_rounds(IP, 2)[:2], takes_answer(IP, 1, answer_paper(IP)), answer_paper(("let", "x", ("word", "x"), ("word", "x")))]
[('over', ('make', 'N', ())), True, None]

[89]

>>> from sharefold.bridges import *
>>> [term_of(IN), told_by(IN, term_of(IN)), answer_by_term(IP, 50)]
[('fun', ('name', 0)), ('make', 'N', ()), ('make', 'N', ())]

[90]

>>> from sharefold.comparisons import *
>>> JI, JW = ("fun", ("name", 0)), ("fun", ("call", ("name", 0), ("name", 0)))
>>> JT, JB = ("call", JW, ("call", JI, ("letter", "A"))), ("call", ("letter", "A"), ("letter", "A"))
>>> [len(reached_within(JT, 1)), len(reached_within(JT, 3)), way_within(JT, JB, 2), way_within(JT, JB, 1), way_within(JT, JI, 6)]
[3, 6, (5, 0), None, None]
>>> [compared(JT, JB, 9)[0], compared(JT, JI, 9)[0], compared(("call", JW, JW), JI, 9), takes_compared(JT, JB, ("one", (5, 0), ())), takes_compared(JT, JB, ("unlike", (), ()))]
['one', 'unlike', ('open',), True, False]

[91]

>>> from sharefold.runreports import *
>>> [run_report(JT, ())[2] == JT, run_report(JT, (0,) * 60)[2], takes_report(JT, ((), (), JT)), takes_report(JT, ((), (0,), JT)), counts_to_normal(JT, 9), counts_to_normal(JT, 1)]
[True, ('call', ('letter', 'A'), ('letter', 'A')), True, False, (2, 2, 3), None]
'''


class ExamplesTest(unittest.TestCase):

    def test_examples(self):
        test = doctest.DocTestParser().get_doctest(EXAMPLES, {}, "interface", None, 0)
        said = []
        results = doctest.DocTestRunner(verbose=False).run(test, out=said.append)
        self.assertEqual(results.failed, 0, "".join(said))
        self.assertGreaterEqual(results.attempted, 120)


if __name__ == "__main__":
    unittest.main()
