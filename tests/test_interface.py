"""The names of the interface, where they stand, and the conventions of all of them: [2]."""

import ast
import importlib
import inspect
import os
import unittest

from sharefold.errors import ShareError
from tests.program_samples import IP, N
from tests.samples import A, B, I, ODD_VALUES, T, call

# Each function of the interface with its parameters, module by module.
INTERFACE = {
    "terms": "is_term(value) size_of(term) height_of(term) kinds_of(term) part_at(term,node) above(term,node) "
             "fun_of(term,node) names_of(term,node)",
    "steps": "redexes(term) is_normal(term) leftmost(term) step(term,node) origins(term,node)",
    "ways": "is_way(term,value) walk(term,way) terms_along(term,way) leftmost_way(term,most) normal_form(term,most)",
    "termtexts": "read_term(text) first_refused(text) signs_on(text) write_term(term)",
    "places": "places_of(term) node_at(term,place) redex_marks(term)",
    "waytexts": "write_row(row) read_row(text) write_way(term,way) read_way(text)",
    "typetexts": "write_type(value) read_type(text)",
    "wordbooks": "is_book(value) word_added(book,marks) needs_of(book,index) same_word(book,index,other,place)",
    "folds": "begun(term) is_fold(value) word_at(fold,node) family_at(fold,node) families_of(fold)",
    "familysteps": "marked_step(fold,node) family_step(fold,family) family_way(fold,family) marked_way(fold,way)",
    "familyways": "leftmost_family(fold) unfolded(fold,most) is_family_way(fold,value) walked(fold,way) "
                  "plain_way(fold,way)",
    "histories": "history_of(fold,family) again(term,way,family) relatives(term,way,node,other,place)",
    "netshapes": "is_raw_net(value) is_net(value) plain_net(raw) plain_order(raw)",
    "termnets": "net_of(term)",
    "liveedges": "live_edges(net) edge_sort(net,edge)",
    "doings": "done(net,edge) done_paper(net,edge) is_done_paper(net,edge,value)",
    "contexts": "is_context(value) level_at(context,index) marked(context,index,mark) unmarked(context,index) "
                "opened(context,index) closed(context,index) paired(context,index) unpaired(context,index)",
    "moves": "moved(net,end,context) walked(net,end,context)",
    "readings": "read_term(net) places_of(net) moves_of(net) stuck_at(net) is_reading(net,value)",
    "wanted": "passed_edges(net) passed_by(net,edge) wanted_edge(net) wanted_way(net)",
    "carried": "carried_places(net,edge) calls_through(net,edge)",
    "netruns": "is_run(term,value) net_behind(term,run) term_behind(term,run) run_by(term,numbers)",
    "netlots": "run_lots(term,run) run_way(term,run) counts_of(term,run)",
    "netweights": "wanted_behind(term,run) passes_behind(term,run) weight_behind(term,run)",
    "netfolds": "fold_behind(term,run) folds_of(term,most) folds_to_normal(term,most)",
    "foldfamilies": "agreement(term,most) shows_agreement(term,value)",
    "types": "is_type(value) type_height(own) opens_of(own) plain_types(types) filled(types,fillings)",
    "typings": "fits_typing(term,value) has_types(term) types_of(term) takes_types(term,value)",
    "instances": "fillings_of(term,types) open_count(term)",
    "typedsteps": "types_behind(term,types,node)",
    "degrees": "degree_of(term,node) degree_counts(term) degree_redex(term) degree_way(term,most)",
    "fragments": "fun_count(term) is_affine(term) is_linear(term) is_flat(term) affine_lengths(term)",
    "residuals": "left_behind(term,node,lot) left_along(term,way,lot)",
    "developments": "development(term,lot) developed(term,lot) is_development(term,lot,value) full_way(term)",
    "meets": "way_behind(term,way,lot) meeting(term,one,other) takes_meeting(term,one,other,value)",
    "standards": "first_unsorted(term,way) is_standard(term,way) first_done(term,way) standard_way(term,way)",
    "overtakes": "full_steps(term,many) overtaking(term,way) takes_overtaking(term,way,value)",
    "programs": "is_program(value) program_kinds(program)",
    "casetrees": "tree_of(patterns) row_by_rows(patterns,value) row_by_tree(patterns,value) parts_tested(patterns,value)",
    "cores": "core_of(program)",
    "needways": "run_by(program,hands,schedule) answer_by_rounds(program,hands) answer_paper(program) "
                "takes_answer(program,hands,value)",
    "plainneed": "plain_answer(program,most)",
    "bridges": "term_of(program) told_by(program,term) answer_by_term(program,most)",
    "comparisons": "reached_within(term,most) way_within(term,other,most) compared(term,other,most) "
                   "takes_compared(term,other,value)",
    "runreports": "run_report(term,numbers) takes_report(term,value) counts_to_normal(term,most)",
}

# Each class of the interface with its methods.
CLASSES = {
    ("needruns", "NeedRun"): "__init__(self,program,hands) has_step(self,hand) step(self,hand) rounds(self,most) state(self) "
                             "answer(self) counts(self) cell_states(self) hand_states(self) reached(self)",
}


def functions():
    for module, rows in INTERFACE.items():
        for row in rows.split():
            name, parameters = row[:-1].split("(")
            yield module, name, parameters.split(",")


def function_named(module, name):
    return getattr(importlib.import_module("sharefold." + module), name)


# A fold, and a net.
FOLD = (call(I, A), (0, 1, 2, 3), ((0,), (1,), (2,), (3,), (0, ("over", 1))))
NET = ((0, 0), (("letter", "A", ((-1, 0),)),))
CALLED = ((0, 1), (("call", 0, ((1, 0), (-1, 0), (3, 0))), ("fun", 0, ((0, 0), (2, 1), (2, 0))),
                   ("open", 0, ((1, 2), (1, 1))), ("letter", "A", ((0, 2),))))
TYPE = ("to", ("open", 1), ("open", 0))


class InterfaceTest(unittest.TestCase):

    def test_functions_are_defined_in_their_files(self):
        for module, name, parameters in functions():
            path = os.path.abspath(importlib.import_module("sharefold." + module).__file__)
            with open(path, encoding="utf-8") as stream:
                rows = ast.parse(stream.read()).body
            found = [row for row in rows if isinstance(row, ast.FunctionDef) and row.name == name]
            self.assertEqual(len(found), 1, name)
            self.assertEqual(list(inspect.signature(function_named(module, name)).parameters), parameters, name)

    def test_methods_are_defined_in_their_classes(self):
        for (module, name), rows in CLASSES.items():
            path = os.path.abspath(importlib.import_module("sharefold." + module).__file__)
            with open(path, encoding="utf-8") as stream:
                found = [row for row in ast.parse(stream.read()).body if isinstance(row, ast.ClassDef) and row.name == name]
            self.assertEqual(len(found), 1)
            methods = {row.name: [own.arg for own in row.args.args] for row in found[0].body if isinstance(row, ast.FunctionDef)}
            for row in rows.split():
                method, parameters = row[:-1].split("(")
                self.assertEqual(methods.get(method), parameters.split(","), method)

    def test_any_values_meet_errors_of_this_package_alone(self):
        values = ODD_VALUES + [T, I, B, "A B", "\\x.x", "[1,2]", "A\n", (0, 5), 3, FOLD, FOLD[2], NET, CALLED,
                               (0, 1), ((), (1, ())), ((0, 1),), TYPE, (TYPE,), ("types", (TYPE,)), IP, N]
        for module, name, parameters in functions():
            function = function_named(module, name)
            for value in values:
                for other in [value, T, 0, 1, (0,), "A"]:
                    for last in [0, other]:
                        arguments = [other, value, last, value, value][:len(parameters)]
                        try:
                            function(*arguments)
                        except ShareError:
                            continue

    def test_results_are_the_same_each_time(self):
        samples = {"term": call(I, T), "node": 0, "value": (0, 3), "way": (3, 0), "most": 5, "text": "A", "place": 2,
                   "row": (1, 2), "book": FOLD[2], "marks": (0, 1), "fold": FOLD, "family": 1, "index": 0,
                   "other": FOLD[2], "raw": NET, "net": CALLED, "edge": (0, 1), "context": ((), (1, ())), "mark": 2,
                   "end": (2, 1), "run": ((0, 1),), "numbers": (3, 10 ** 6),
                   "lot": (0, 3), "own": TYPE, "types": (TYPE, TYPE[2]), "fillings": (TYPE, ("open", 5)),
                   "one": (3,), "many": 3, "program": IP, "patterns": (N, ("word", "x")), "hands": 2,
                   "schedule": (0, 1, 0)}
        for module, name, parameters in functions():
            if not set(parameters) <= set(samples):
                continue
            results = []
            for _ in range(2):
                try:
                    result = function_named(module, name)(*[samples[own] for own in parameters])
                    results.append((result.counts(), result.hand_states()) if name == "run_by" and module == "needways" else result)
                except ShareError as error:
                    results.append((type(error), vars(error)))
            self.assertEqual(*results)
            if isinstance(results[0], list):
                self.assertIsNot(*results)


if __name__ == "__main__":
    unittest.main()
