"""What [3] promises of all parts, sentence by sentence, on what is made by random choices from fixed seeds."""

import random
import unittest

from sharefold.bridges import answer_by_term, term_of
from sharefold.carried import carried_places
from sharefold.casetrees import row_by_rows, row_by_tree, tree_of
from sharefold.comparisons import compared, reached_within, takes_compared
from sharefold.degrees import degree_way
from sharefold.developments import developed, is_development
from sharefold.doings import done, done_paper
from sharefold.familysteps import family_step, marked_step
from sharefold.familyways import leftmost_family, unfolded
from sharefold.folds import begun, families_of
from sharefold.fragments import affine_lengths, fun_count
from sharefold.histories import again, history_of
from sharefold.instances import fillings_of
from sharefold.liveedges import edge_sort, live_edges
from sharefold.meets import meeting
from sharefold.needruns import NeedRun
from sharefold.netfolds import fold_behind, folds_of, folds_to_normal
from sharefold.netlots import run_lots, run_way
from sharefold.netruns import net_behind, run_by, term_behind
from sharefold.netshapes import plain_net
from sharefold.netweights import wanted_behind, weight_behind
from sharefold.overtakes import full_steps, overtaking
from sharefold.plainneed import plain_answer
from sharefold.readings import moves_of, places_of, read_term, stuck_at
from sharefold.runreports import counts_to_normal, run_report, takes_report
from sharefold.standards import is_standard, standard_way
from sharefold.steps import is_normal, leftmost, redexes, step
from sharefold.termnets import net_of
from sharefold.termtexts import first_refused, signs_on, write_term
from sharefold.termtexts import read_term as term_read
from sharefold.typedsteps import types_behind
from sharefold.types import filled
from sharefold.typings import fits_typing, has_types, takes_types, types_of
from sharefold.ways import leftmost_way, terms_along, walk
from sharefold.waytexts import read_way, write_way
from sharefold.wordbooks import same_word
from tests.lot_oracle import random_development, random_lot
from tests.net_oracle import SlowReading
from tests.net_samples import nets_of_runs
from tests.program_oracle import slow_fits
from tests.program_samples import random_value
from tests.samples import limit_of, random_terms
from tests.test_bridges import is_made
from tests.test_casetrees import random_patterns
from tests.test_fragments import affine_terms
from tests.test_needways import right_programs
from tests.test_types import random_type
from tests.test_wanted import fronts
from tests.way_oracle import random_way


def runs_of(seed, many, greatest, most):
    """Triples of a term, of a run of it by chance, and of the dice, where nothing is too great."""
    dice = random.Random(seed)
    for term in random_terms(seed, many, greatest):
        numbers = tuple([dice.randrange(10 ** 6) for _ in range(dice.randrange(most))])
        if limit_of(run_by, term, numbers) is None:
            run = run_by(term, numbers)
            if limit_of(run_way, term, run) is None and limit_of(term_behind, term, run) is None:
                yield term, run, dice


class TextsTest(unittest.TestCase):

    def test_texts_written_are_read_as_the_term(self):
        terms = {term: True for term in random_terms(501, 600, 60)}
        texts = {write_term(term) for term in terms}
        self.assertEqual(len(texts), len(terms))
        for term in terms:
            if len(write_term(term)) <= 2000:
                self.assertEqual(term_read(write_term(term)), term)

    def test_refused_at_the_first_character_that_is_not_among_the_signs(self):
        dice = random.Random(502)
        refused = 0
        for _ in range(1500):
            text = "".join(dice.choice("AB \\$.()xy") for _ in range(dice.randrange(14)))
            places = [place for place, sign in enumerate(text) if sign not in signs_on(text[:place])]
            found = first_refused(text)
            if places:
                self.assertEqual(found, places[0])
                refused += 1
            else:
                self.assertIn(found, [None, len(text)])
        self.assertGreater(refused, 500)

    def test_a_page_that_is_read_tells_a_way(self):
        dice = random.Random(503)
        for term in random_terms(503, 150, 30):
            way = random_way(dice, term, 6)
            page = write_way(term, way)
            self.assertEqual(read_way(page), (term, way))
            rows = [row.split(": ") for row in page.split("\n")[1:-1]]
            for node, (told, text), behind in zip(way, rows, terms_along(term, way)[1:]):
                self.assertEqual((int(told), term_read(text)), (node, behind))


class FamiliesTest(unittest.TestCase):

    def test_done_in_any_order_to_one_term_and_to_the_same_words(self):
        dice = random.Random(504)
        for term in random_terms(504, 120, 24):
            fold = begun(term)
            for _ in range(5):
                families = dict(families_of(fold))
                if not families:
                    break
                family = dice.choice(list(families))
                if limit_of(family_step, fold, family) is not None:
                    break
                behind = family_step(fold, family)
                other = fold
                while dict(families_of(other)).get(family):
                    other = marked_step(other, dice.choice(dict(families_of(other))[family]))
                self.assertEqual(other[0], behind[0])
                self.assertTrue(all(same_word(other[2], one, behind[2], two) for one, two in zip(other[1], behind[1])))
                fold = behind

    def test_not_there_again_and_leftmost_ones_are_fewest(self):
        dice = random.Random(505)
        compared_ways = 0
        for term in random_terms(505, 150, 20):
            leftmost_ones, last = unfolded(begun(term), 60)
            ended = is_normal(last[0])
            way, behind = leftmost_way(term, 200)
            if is_normal(behind):
                self.assertEqual(last[0], behind)
            for _ in range(3):
                fold, gone = begun(term), []
                while families_of(fold) and len(gone) < 20:
                    family = dice.choice(families_of(fold))[0]
                    if limit_of(family_step, fold, family) is not None:
                        break
                    fold = family_step(fold, family)
                    gone.append(family)
                    self.assertEqual(set(gone) & set(dict(families_of(fold))), set())
                if ended and is_normal(fold[0]):
                    self.assertLessEqual(len(leftmost_ones), len(gone))
                    compared_ways += 1
        self.assertGreater(compared_ways, 200)

    def test_what_a_word_names_was_done_ahead_and_brings_the_family(self):
        brought = 0
        dice = random.Random(506)
        for term in random_terms(506, 150, 24):
            fold, way = begun(term), ()
            for _ in range(5):
                for family, _ in families_of(fold):
                    needs = history_of(fold, family)
                    self.assertLessEqual(set(needs), set(way))
                    if limit_of(again, term, way, family) is None:
                        steps, lot = again(term, way, family)
                        self.assertEqual(len(steps), len(needs))
                        self.assertTrue(lot)
                        brought += len(needs) > 0
                if not families_of(fold):
                    break
                family = dice.choice(families_of(fold))[0]
                if limit_of(family_step, fold, family) is not None:
                    break
                fold, way = family_step(fold, family), way + (family,)
        self.assertGreater(brought, 60)


class NetsTest(unittest.TestCase):

    def test_renumbered_with_more_that_is_not_reached(self):
        dice = random.Random(507)
        for root, nodes in nets_of_runs(dice, 507, 80, 24, 6):
            order = list(range(len(nodes) + 3))
            dice.shuffle(order)

            def new(end):
                return (order[end[0]], end[1]) if end and end[0] >= 0 else end

            rows = [("letter", "Q", ((),))] * len(order)
            for node, (kind, index, ends) in enumerate(nodes):
                rows[order[node]] = (kind, index, tuple([new(end) for end in ends]))
            self.assertEqual(plain_net((new(root), tuple(rows))), (root, nodes))

    def test_one_live_edge_at_most_and_either_order(self):
        dice = random.Random(508)
        both = 0
        for net in nets_of_runs(dice, 508, 80, 24, 6):
            edges = live_edges(net)
            nodes = [node for edge in edges for node in edge]
            self.assertEqual(len(nodes), len(set(nodes)))
            if len(edges) > 1:
                one, other = dice.sample(edges, 2)
                ends = [self.in_turn(net, one, other), self.in_turn(net, other, one)]
                if None not in ends:
                    self.assertEqual(*ends)
                    both += 1
        self.assertGreater(both, 60)

    def in_turn(self, net, one, other):
        """The net behind the doing of two edges, or None if the second one's nodes do not stay."""
        if limit_of(done, net, one) is not None:
            return None
        behind = done(net, one)
        # Nodes are told by origins in the paper of the doing.
        numbers = {origin: node for node, origin in enumerate(done_paper(net, one)[1])}
        nodes = [numbers.get((node, 0)) for node in other]
        if None in nodes or limit_of(done, behind, tuple(sorted(nodes))) is not None:
            return None
        return done(behind, tuple(sorted(nodes)))

    def test_read_as_the_term_and_places_carried(self):
        dice = random.Random(509)
        carried = 0
        for term in random_terms(509, 150, 24):
            if limit_of(net_of, term) is not None:
                continue
            net = net_of(term)
            self.assertEqual(read_term(net), term)
            for _ in range(12):
                edges = [edge for edge in live_edges(net) if edge_sort(net, edge) != "call"]
                if not edges or dice.random() < 0.2:
                    edges = live_edges(net)
                if not edges:
                    break
                edge = dice.choice(edges)
                if limit_of(done, net, edge) is not None or limit_of(read_term, done(net, edge)) is not None:
                    break
                behind = done(net, edge)
                if edge_sort(net, edge) != "call":
                    self.assertEqual(read_term(behind), read_term(net))
                    self.assertEqual(places_of(behind), carried_places(net, edge))
                    carried += 1
                net = behind
        self.assertGreater(carried, 200)

    def test_never_stuck(self):
        dice = random.Random(510)
        read = 0
        for net in nets_of_runs(dice, 510, 80, 24, 12):
            if limit_of(stuck_at, net) is not None:
                continue
            self.assertIsNone(stuck_at(net))
            self.assertGreaterEqual(moves_of(net), 1)
            # Of two fronts that a reading passes, only those of a letter and of a call make no live edge.
            read += 1
            self.check_fronts(net)
        self.assertGreater(read, 200)

    def check_fronts(self, net):
        nodes = net[1]
        for hops in SlowReading(net).hops:
            for one, other in fronts(hops):
                if (one, other) not in live_edges(net):
                    self.assertEqual({nodes[one][0], nodes[other][0]}, {"letter", "call"})


class RunsTest(unittest.TestCase):

    def test_developed_by_the_lots(self):
        for term, run, _ in runs_of(511, 120, 22, 25):
            lots = run_lots(term, run)
            ahead = term
            for many, lot in enumerate(lots):
                read = term_behind(term, run[:many + 1])
                self.assertEqual(read, developed(ahead, lot))
                ahead = read
            self.assertEqual(walk(term, run_way(term, run)), term_behind(term, run))

    def test_wanted_edges_and_weights(self):
        folded = 0
        for term, run, _ in runs_of(512, 250, 22, 12):
            wanted, weight = wanted_behind(term, run), weight_behind(term, run)
            self.assertEqual(wanted is None, is_normal(term_behind(term, run)))
            self.assertEqual(weight == -1, wanted is None)
            if wanted is None or limit_of(net_behind, term, run + (wanted,)) is not None:
                continue
            if edge_sort(net_behind(term, run), wanted) != "call":
                self.assertLess(weight_behind(term, run + (wanted,)), weight)
            if limit_of(fold_behind, term, run) is None:
                self.assertLessEqual(len(fold_behind(term, run)) - len(run), weight + 1)
                folded += 1
        self.assertGreater(folded, 30)

    def test_folds_are_leftmost_family_steps(self):
        ended = 0
        for term in random_terms(513, 200, 24):
            if limit_of(folds_of, term, 15) is not None or limit_of(folds_to_normal, term, 15) is not None:
                continue
            fold = begun(term)
            for lot in folds_of(term, 15)[0]:
                family = leftmost_family(fold)
                self.assertEqual(dict(families_of(fold))[family], lot)
                self.assertEqual(lot[0], leftmost(fold[0]))
                fold = family_step(fold, family)
            self.assertEqual(folds_of(term, 15)[1], fold[0])
            way, behind = leftmost_way(term, 200)
            if folds_to_normal(term, 15) is not None:
                self.assertEqual(folds_to_normal(term, 15), len(unfolded(begun(term), 200)[0]))
                self.assertIs(is_normal(behind), True)
                self.assertLessEqual(folds_to_normal(term, 15), len(way))
                ended += 1
            elif is_normal(behind):
                self.assertGreater(len(way), 15)
        self.assertGreater(ended, 100)

    def test_reports(self):
        for term, run, dice in runs_of(514, 120, 22, 30):
            numbers = tuple([dice.randrange(99) for _ in range(dice.randrange(25))])
            for told in [(run, run_way(term, run), term_behind(term, run))] + (
                    [run_report(term, numbers)] if limit_of(run_report, term, numbers) is None else []):
                self.assertEqual(walk(term, told[1]), told[2])
                self.assertIs(takes_report(term, told), True)
                other = random_way(dice, term, 5)
                self.assertIs(takes_report(term, (told[0], other, told[2])), walk(term, other) == told[2])
                self.assertIs(takes_report(term, (told[0], told[1], walk(term, other))), walk(term, other) == told[2])


class TypesTest(unittest.TestCase):

    def test_typings_and_clashes(self):
        dice = random.Random(515)
        counts = [0, 0]
        for term in random_terms(515, 250, 22):
            if limit_of(types_of, term) is not None:
                continue
            told = types_of(term)
            self.assertIs(takes_types(term, told), True)
            self.assertEqual(told[0] == "clash", not has_types(term))
            counts[told[0] == "clash"] += 1
            if told[0] == "types":
                types = filled(told[1], tuple([random_type(dice, 3) for _ in range(30)]))
                self.assertIs(fits_typing(term, types), True)
                self.assertEqual(filled(told[1], fillings_of(term, types)), types)
        self.assertGreater(min(counts), 40)

    def test_types_behind_steps(self):
        dice = random.Random(516)
        for term in random_terms(516, 250, 24):
            if limit_of(types_of, term) is not None or not has_types(term):
                continue
            types = types_of(term)[1]
            for node in random_way(dice, term, 5):
                types, term = types_behind(term, types, node), step(term, node)
                self.assertIs(fits_typing(term, types), True)

    def test_ways_by_degrees(self):
        for term in random_terms(517, 300, 26):
            if limit_of(types_of, term) is not None or not has_types(term):
                continue
            way, degrees, _ = degree_way(term, 200)
            self.assertEqual(list(degrees), sorted(degrees, reverse=True))
            types = types_of(term)[1]
            for place, node in enumerate(way):
                heights = [self.height(types[own + 1]) for own in redexes(term)]
                if degrees[place] not in degrees[:place] and is_normal(degree_way(term, 200)[2]):
                    self.assertEqual(degrees.count(degrees[place]), heights.count(degrees[place]))
                types, term = types_behind(term, types, node), step(term, node)

    def height(self, own):
        return 0 if own[0] == "open" else 1 + max(self.height(own[1]), self.height(own[2]))

    def test_affine_terms(self):
        for term in affine_terms(518, 250, 26):
            if limit_of(affine_lengths, term) is None:
                least, greatest, normal = affine_lengths(term)
                self.assertLessEqual(greatest, fun_count(term))
                self.assertEqual(leftmost_way(term, 200)[1], normal)
                self.assertLessEqual(least, len(leftmost_way(term, 200)[0]))


class WaysTest(unittest.TestCase):

    def test_developments(self):
        dice = random.Random(519)
        for term in random_terms(519, 200, 30):
            lot = random_lot(dice, term)
            found = random_development(dice, term, lot)
            if found is not None:
                self.assertIs(is_development(term, lot, found[0]), True)
                self.assertEqual(found[1], developed(term, lot))

    def test_two_ways_meet(self):
        dice = random.Random(520)
        for term in random_terms(520, 200, 28):
            one, other = random_way(dice, term, 5), random_way(dice, term, 5)
            if limit_of(meeting, term, one, other) is None:
                tails = meeting(term, one, other)
                self.assertEqual(walk(walk(term, one), tails[0]), walk(walk(term, other), tails[1]))

    def test_standard_ways(self):
        dice = random.Random(521)
        for term in random_terms(521, 250, 28):
            way = random_way(dice, term, 8)
            if limit_of(standard_way, term, way) is None:
                told = standard_way(term, way)
                self.assertEqual(walk(term, told), walk(term, way))
                self.assertIs(is_standard(term, told), True)
                self.assertEqual(standard_way(term, told), told)
                if is_normal(walk(term, way)):
                    self.assertEqual(told, leftmost_way(term, 200)[0])

    def test_full_steps_overtake(self):
        dice = random.Random(522)
        for term in random_terms(522, 250, 28):
            way = random_way(dice, term, 6)
            if limit_of(overtaking, term, way) is None:
                self.assertEqual(walk(walk(term, way), overtaking(term, way)), full_steps(term, len(way))[-1])

    def test_comparisons(self):
        dice = random.Random(523)
        sorts = {"one": 0, "unlike": 0, "open": 0}
        terms = random_terms(523, 400, 22)
        for term, other in zip(terms, terms[1:]):
            other = dice.choice([other, walk(term, random_way(dice, term, 4))])
            told = compared(term, other, 40)
            sorts[told[0]] += 1
            if told[0] == "open":
                continue
            self.assertIs(takes_compared(term, other, told), True)
            behind, beyond = walk(term, told[1]), walk(other, told[2])
            self.assertEqual(behind == beyond, told[0] == "one")
            for _ in range(3):
                one, two = random_way(dice, term, 6), random_way(dice, other, 6)
                if told[0] == "unlike":
                    self.assertIs(takes_compared(term, other, ("one", one, two)), False)
                    self.assertNotEqual(walk(term, one), walk(other, two))
                else:
                    self.assertIs(takes_compared(term, other, ("unlike", one, two)), False)
            if limit_of(reached_within, term, 2) is None and limit_of(reached_within, other, 2) is None:
                near = [own for own in reached_within(term, 2) if own in reached_within(other, 2)]
                self.assertTrue(told[0] == "one" or not near)
        self.assertGreater(min(sorts.values()), 20)

    def test_to_the_normal_form(self):
        ended = 0
        for term in random_terms(524, 250, 24):
            way, behind = leftmost_way(term, 200)
            if limit_of(counts_to_normal, term, 40) is None:
                told = counts_to_normal(term, 40)
                self.assertEqual(told is not None, is_normal(behind))
                if told is not None:
                    self.assertEqual((told[0], told[2]), (told[1], len(way)))
                    self.assertLessEqual(told[1], told[2])
                    ended += 1
        self.assertGreater(ended, 120)


class ProgramsTest(unittest.TestCase):

    def test_trees_tell_the_first_row_that_fits(self):
        dice = random.Random(525)
        for _ in range(400):
            patterns, value = random_patterns(dice, 6, 4), random_value(dice, 5)
            if limit_of(tree_of, patterns) is None:
                rows = [(row, slow_fits(pattern, value)) for row, pattern in enumerate(patterns)]
                found = [(row, tuple(pairs)) for row, pairs in rows if pairs is not None]
                self.assertEqual(row_by_tree(patterns, value), found[0] if found else None)
                self.assertEqual(row_by_tree(patterns, value), row_by_rows(patterns, value))

    def test_runs_that_are_over_have_one_answer(self):
        dice = random.Random(526)
        over = 0
        for program in right_programs(526, 300, 30):
            ends = []
            for _ in range(4):
                run = NeedRun(program, dice.randrange(1, 5))
                hands = len(run.hand_states())
                while run.state() == "on" and run.counts()[0] < 600:
                    hand = dice.randrange(hands)
                    if limit_of(run.step, hand) is not None:
                        break
                if run.state() == "over":
                    ends.append((run.answer(), run.counts()))
            self.assertLessEqual(len(set(ends)), 1)
            if ends:
                plain = plain_answer(program, 5000)
                self.assertIn(plain, [None, ends[0][0]])
                over += plain is not None
        self.assertGreater(over, 150)

    def test_the_normal_form_tells_the_answer(self):
        told = 0
        for program in right_programs(527, 400, 24):
            if limit_of(term_of, program) is not None:
                continue
            run = NeedRun(program, 1)
            if limit_of(run.rounds, 5000) is not None or run.state() != "over" or not is_made(run.answer()):
                continue
            way, behind = leftmost_way(term_of(program), 200)
            if is_normal(behind):
                self.assertEqual(answer_by_term(program, len(way)), run.answer())
                told += 1
            elif len(way) < 200:
                # The next step is too great.
                self.assertIsNotNone(limit_of(step, behind, leftmost(behind)))
        self.assertGreater(told, 100)


if __name__ == "__main__":
    unittest.main()
