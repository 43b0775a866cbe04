import unittest

from alikeclash.clashes import is_peace, is_quarrel
from alikeclash.errors import NotUsable, Refused
from alikeclash.finding import chain_of
from alikeclash.loads import load_of, worth_of
from alikeclash.pieces import cut_pieces, given_to, is_pieces, one_behind, pieces_length, side_by_side
from alikeclash.planchecker import lets_plan
from alikeclash.planclasses import Planner
from alikeclash.planpapers import plan_paper
from alikeclash.plays import first_fit
from alikeclash.ringtables import ring_table
from alikeclash.roundplans import cover_plan, rounds_plan
from alikeclash.triples import triple_of
from alikeclash.tryings import tried_cover, tried_rounds
from tests.samples import (
    EMPTY, EMPTY_HELD, FREE, LESSON, LINE, MUX, ODD, ONE, PAIRS, WHOLE, all_chains, chained_tables, chance_of, fault_of,
    forty_rows, is_group, is_triple, open_ones, random_ground, random_rule, random_table, regrouped, slow_heaviest,
    slow_plan_fault, some_weights, spoilt, stands, told_rule_of,
)

PLAN = ((1, (0, 2)), (2, (0, 3)), (1, (1, 3)))


class RoundPlansTest(unittest.TestCase):

    def check(self, ground, rule, table, weights, load, worth):
        filled = len([weight for weight in weights if weight > 0])
        for plan, word, length in (
            (rounds_plan(ground, rule, table, weights), False, load),
            (cover_plan(ground, rule, table, weights), True, worth),
        ):
            self.assertIs(is_pieces(len(table), plan), True)
            self.assertIsNone(slow_plan_fault(rule, table, weights, plan, word))
            self.assertEqual(sum(piece for piece, _ in plan), length)
            self.assertLessEqual(len(plan), filled)

    def test_small_tables(self):
        chance = chance_of(65)
        seen = set()
        for ground, rule, _, table in chained_tables(65, 4):
            seen.update((step[0], step[-1]) for step in chain_of(ground, rule))
            for weights in some_weights(chance, table):
                load, worth = [slow_heaviest(rule, table, weights, word) for word in (True, False)]
                self.check(ground, rule, table, weights, load, worth)
            ones = (1,) * len(table)
            self.assertEqual(pieces_length(rounds_plan(ground, rule, table, ones)), tried_rounds(ground, rule, table))
            self.assertEqual(pieces_length(cover_plan(ground, rule, table, ones)), tried_cover(ground, rule, table))
        self.assertEqual(len(seen), 6)

    def test_all_chains_of_two_columns(self):
        table = tuple((a, b) for a in range(3) for b in range(3))
        chance = chance_of(650)
        for ground in ((2, ()), (2, (((0,), (1,)),)), ONE, (2, (((), (0,)),))):
            rows = random_table(chance, ground, 30, 3)[:9] if ground != (2, ()) else table
            for chain in all_chains(ground):
                rule = told_rule_of(ground, chain)
                for weights in some_weights(chance, rows)[2:]:
                    load, worth = [slow_heaviest(rule, rows, weights, word) for word in (True, False)]
                    self.check(ground, rule, rows, weights, load, worth)

    def test_forty_rows(self):
        chance = chance_of(651)
        for ground, rule, _, table in forty_rows(651, 3):
            for weights in some_weights(chance, table) + (tuple(chance.randint(0, 10 ** 12) for _ in table),):
                load, worth = load_of(ground, rule, table, weights), worth_of(ground, rule, table, weights)
                self.check(ground, rule, table, weights, load, worth)

    def test_edges(self):
        for ground in (EMPTY, EMPTY_HELD, WHOLE, FREE, ONE):
            for rule in {(), tuple(open_ones(ground))}:
                row = ((3,) * ground[0],)
                for function in (rounds_plan, cover_plan):
                    self.assertEqual(function(ground, rule, (), ()), ())
                    self.assertEqual(function(ground, rule, row, (0,)), ())
                    self.assertEqual(function(ground, rule, row, (10 ** 12,)), ((10 ** 12, (0,)),))
        self.assertEqual(rounds_plan(FREE, LESSON, LINE, (0, 0, 0, 0)), ())
        forty = tuple((k,) for k in range(40))
        self.assertEqual(len(rounds_plan(ONE, ((),), forty, tuple(range(1, 41)))), 40)
        self.assertEqual(len(rounds_plan(ONE, (), forty, tuple(range(1, 41)))), 40)
        self.assertEqual(rounds_plan(ONE, (), forty, (5,) * 40), ((5, tuple(range(40))),))

    def test_example(self):
        self.assertEqual(pieces_length(rounds_plan(FREE, LESSON, LINE, (3, 1, 1, 3))), 4)
        self.assertEqual(pieces_length(cover_plan(FREE, LESSON, LINE, (3, 1, 1, 3))), 6)


class PlanPapersTest(unittest.TestCase):

    def test_papers(self):
        chance = chance_of(66)
        for ground, rule, _, table in chained_tables(66, 2):
            for weights in some_weights(chance, table):
                for w, form, right in ((True, "rounds", is_quarrel), (False, "cover", is_peace)):
                    paper = plan_paper(ground, rule, table, weights, w)
                    self.assertEqual((type(paper), len(paper), paper[0]), (tuple, 3, form))
                    self.assertIs(right(ground, rule, table, paper[1]), True)
                    heavy = slow_heaviest(rule, table, weights, w)
                    self.assertEqual(sum(weights[row] for row in paper[1]), heavy)
                    self.assertLessEqual(len(paper[2]), len([weight for weight in weights if weight > 0]))
                    self.assertEqual(lets_plan(ground, rule, table, weights, paper), heavy)

    def test_forty_rows(self):
        for ground, rule, _, table in forty_rows(660, 2):
            weights = tuple(10 ** 12 - k for k in range(len(table)))
            for w, heavy in ((True, load_of), (False, worth_of)):
                paper = plan_paper(ground, rule, table, weights, w)
                self.assertEqual(lets_plan(ground, rule, table, weights, paper), heavy(ground, rule, table, weights))

    def test_edges(self):
        self.assertEqual(plan_paper(FREE, LESSON, (), (), True), ("rounds", (), ()))
        self.assertEqual(plan_paper(WHOLE, (), (), (), False), ("cover", (), ()))
        self.assertEqual(plan_paper(WHOLE, (), ((1, 1),), (4,), False), ("cover", (0,), ((4, (0,)),)))


class RefusedTest(unittest.TestCase):

    def test_rules_without_a_chain(self):
        for rule in (PAIRS, MUX):
            for function, rest in ((rounds_plan, ()), (cover_plan, ()), (plan_paper, (True,)), (plan_paper, (False,))):
                for table, weights in ((LINE, (1, 1, 1, 1)), ((), ()), (LINE, (0, 0, 0, 0))):
                    with self.assertRaises(Refused) as caught:
                        function(FREE, rule, table, weights, *rest)
                    self.assertTrue(is_triple(FREE, rule, caught.exception.triple))
                with self.assertRaises(NotUsable) as caught:
                    function(FREE, rule, LINE, (1, 1, 1), *rest)
                self.assertEqual(caught.exception.word, "weights")
            with self.assertRaises(NotUsable) as caught:
                plan_paper(FREE, rule, LINE, (1, 1, 1, 1), 1)
            self.assertEqual(caught.exception.word, "w")


def slow_lets_plan(rule, table, weights, thing):
    """What lets_plan returns, or the word and the place of the fault, as [67] tells."""
    if type(thing) is not tuple or len(thing) != 3 or type(thing[0]) is not str or type(thing[2]) is not tuple:
        return "shape", -1
    if thing[0] not in ("rounds", "cover"):
        return "shape", -1
    word = thing[0] == "rounds"
    if not is_group(len(table), thing[1]) or not stands(rule, table, thing[1], word):
        return "group", 1
    fault = slow_plan_fault(rule, table, weights, thing[2], not word)
    if fault:
        return fault
    length = sum(piece for piece, _ in thing[2])
    return length if length == sum(weights[row] for row in thing[1]) else ("length", -1)


class PlanCheckerTest(unittest.TestCase):

    weights = (3, 1, 1, 3)

    def fault(self, thing, rule=LESSON):
        return fault_of(lets_plan, FREE, rule, LINE, self.weights, thing)

    def test_shape(self):
        for thing in ODD + (
            ("rounds", (0, 1)), ["rounds", (0, 1), PLAN], ("round", (0, 1), PLAN), ("rounds", (0, 1), list(PLAN)),
            ("rounds", (0, 1), PLAN, 0), ("rounds", (0, 1), None), (True, (0, 1), PLAN), (["rounds"], (0, 1), PLAN),
        ):
            self.assertEqual(self.fault(thing), ("shape", -1), thing)

    def test_groups(self):
        for group in (None, [0, 1], (1, 0), (0, 0), (0, 4), (True,), (-1,), (0, 2), (0, 1, 2), "01", 0):
            self.assertEqual(self.fault(("rounds", group, ((0, ()),))), ("group", 1), group)
        for group in ((0, 1), (0, 1, 3), (2, 3)):
            self.assertEqual(self.fault(("cover", group, PLAN)), ("group", 1), group)

    def test_pieces(self):
        for piece in (
            None, (), [1, (0,)], (0, (0,)), (-1, (0,)), (True, (0,)), (1, ()), (1, [0]), (1, (1, 0)), (1, (0, 0)), (1, (4,)),
            (1, (False,)), (1, (0,), 0), (1,), ("1", (0,)), ((1, 1), (0,)), (1, (-1,)), (1, 0), (None, (0,)),
        ):
            self.assertEqual(self.fault(("rounds", (0, 1), PLAN[:1] + (piece, (1, (0, 1))))), ("piece", 1), piece)
            self.assertEqual(self.fault(("rounds", (0, 1), ((1, (0, 1)), piece))), ("clash", 0), piece)
        self.assertEqual(self.fault(("cover", (0, 3), ((1, (0, 1)), (1, (0, 3)), None))), ("clash", 1))

    def test_given_and_length(self):
        self.assertEqual(self.fault(("rounds", (0, 1), PLAN)), 4)
        self.assertEqual(self.fault(("rounds", (2, 3), PLAN)), 4)
        self.assertEqual(self.fault(("rounds", (0, 1), PLAN[::-1])), 4)
        self.assertEqual(self.fault(("rounds", (0, 1), PLAN[:2])), ("given", 1))
        self.assertEqual(self.fault(("rounds", (0, 1), PLAN + PLAN[2:])), ("given", 1))
        self.assertEqual(self.fault(("rounds", (0, 1), ())), ("given", 0))
        self.assertEqual(self.fault(("rounds", (0,), PLAN)), ("length", -1))
        self.assertEqual(self.fault(("rounds", (), PLAN)), ("length", -1))
        longer = ((1, (0, 2)), (2, (0,)), (2, (3,)), (1, (1, 3)))
        self.assertEqual(self.fault(("rounds", (0, 1), longer)), ("length", -1))
        cover = ((1, (0, 1)), (1, (2, 3)), (2, (0,)), (2, (3,)))
        self.assertEqual(self.fault(("cover", (0, 3), cover)), 6)
        self.assertEqual(self.fault(("cover", (0, 2), cover)), ("length", -1))
        self.assertEqual(fault_of(lets_plan, FREE, LESSON, (), (), ("rounds", (), ())), 0)
        self.assertEqual(fault_of(lets_plan, FREE, LESSON, (), (), ("cover", (0,), ())), ("group", 1))

    def test_all_kinds(self):
        chance = chance_of(67)
        seen = {}
        for _ in range(500):
            ground = random_ground(chance, 3, chance.randint(0, 1))
            rule = random_rule(chance, ground)
            table = random_table(chance, ground, 12, 3)[:5]
            weights = some_weights(chance, table)[chance.choice((0, 1, 2, 4))]
            paper = self.some_paper(chance, rule, table, weights)
            for thing in (
                paper, spoilt(chance, paper), paper[:2] + (spoilt(chance, paper[2]),),
                paper[:2] + (regrouped(chance, paper[2], len(table)),),
            ):
                right = slow_lets_plan(rule, table, weights, thing)
                self.assertEqual(fault_of(lets_plan, ground, rule, table, weights, thing), right, thing)
                word = right[0] if type(right) is tuple else "right"
                seen[word] = seen.get(word, 0) + 1
        self.assertEqual(set(seen), {"shape", "group", "piece", "clash", "given", "length", "right"})
        self.assertGreater(min(seen.values()), 5, seen)

    def some_paper(self, chance, rule, table, weights):
        """A paper that is nearly right: pieces of one row each, joined where two may be."""
        word = chance.random() < 0.5
        rows = [row for row in range(len(table)) if weights[row] > 0]
        heavy = max(
            [group for group in ((), *[(row,) for row in rows], *[(a, b) for a in rows for b in rows if a < b])
             if stands(rule, table, group, word)], key=lambda group: sum(weights[row] for row in group),
        )
        pieces = [(weights[row], (row,)) for row in rows]
        for a in rows:
            for b in rows:
                if a < b and weights[a] == weights[b] and stands(rule, table, (a, b), not word):
                    if (weights[a], (a,)) in pieces and (weights[b], (b,)) in pieces:
                        pieces = [piece for piece in pieces if piece[1] not in ((a,), (b,))] + [(weights[a], (a, b))]
        return "rounds" if word else "cover", heavy, tuple(pieces)

    def test_rules_without_a_chain(self):
        # On a ring of five rows no paper is right with all weights 1, but one is with a row less.
        ring = ring_table(FREE, PAIRS, triple_of(FREE, PAIRS))
        rows = range(len(ring))
        word = stands(PAIRS, ring, (0, 1), True)
        self.assertEqual(len(ring), 7)
        weights = (1,) * 6 + (0,)
        pieces = ((1, (0, 2, 4)), (1, (1, 3, 5)))
        paper = ("rounds" if word else "cover", (0, 1), pieces)
        self.assertEqual(lets_plan(FREE, PAIRS, ring, weights, paper), 2)
        shorter = ("rounds" if word else "cover", (0, 1), tuple((1, (row,)) for row in rows))
        self.assertEqual(fault_of(lets_plan, FREE, PAIRS, ring, (1,) * 7, shorter), ("length", -1))

    def test_example(self):
        self.assertEqual(lets_plan(FREE, LESSON, LINE, (3, 1, 1, 3), ("rounds", (0, 1), PLAN)), 4)


class PlannerTest(unittest.TestCase):

    def test_as_the_functions(self):
        chance = chance_of(720)
        for ground, rule, _, table in chained_tables(720, 1):
            planner = Planner(ground, rule)
            for weights in some_weights(chance, table):
                self.assertEqual(planner.rounds_for(table, weights), rounds_plan(ground, rule, table, weights))
                self.assertEqual(planner.cover_for(table, weights), cover_plan(ground, rule, table, weights))
            sequence = tuple(chance.sample(range(len(table)), len(table)))
            self.assertEqual(planner.fit(table, sequence), first_fit(ground, rule, table, sequence))

    def test_rules_without_a_chain(self):
        planner = Planner(FREE, MUX)
        self.assertEqual(planner.fit(LINE, (0, 1, 2, 3)), first_fit(FREE, MUX, LINE, (0, 1, 2, 3)))
        for call in (planner.rounds_for, planner.cover_for):
            with self.assertRaises(Refused) as caught:
                call(LINE, (1, 1, 1, 1))
            self.assertTrue(is_triple(FREE, MUX, caught.exception.triple))
            with self.assertRaises(NotUsable) as caught:
                call(LINE, (1, 1, 1))
            self.assertEqual(caught.exception.word, "weights")
        with self.assertRaises(NotUsable) as caught:
            planner.rooms_for(LINE, (1, 1, 1, 1), 2)
        self.assertEqual((caught.exception.word, caught.exception.at), ("rule", -1))
        with self.assertRaises(NotUsable) as caught:
            planner.rooms_for(LINE, (1, 1, 1, 1), 0)
        self.assertEqual(caught.exception.word, "rooms")

    def test_rooms(self):
        planner = Planner(FREE, LESSON)
        self.assertEqual(pieces_length(planner.rooms_for(LINE, (3, 1, 1, 3), 2)), 4)
        self.assertEqual(pieces_length(planner.rooms_for(LINE, (3, 1, 1, 3), 1)), 8)

    def test_made(self):
        for things, word in (
            ((None, None), "ground"), (((3, []), ()), "ground"), ((FREE, [()]), "rule"), ((FREE, ((0, 1, 2),)), "rule"),
        ):
            with self.assertRaises(NotUsable) as caught:
                Planner(*things)
            self.assertEqual((caught.exception.word, caught.exception.at), (word, -1))


class ConsequencesTest(unittest.TestCase):

    def test_pieces_of_plans(self):
        chance = chance_of(721)
        for ground, rule, _, table in chained_tables(721, 1):
            weights = some_weights(chance, table)[2]
            one = rounds_plan(ground, rule, table, weights)
            cover = cover_plan(ground, rule, table, weights)
            other = tuple((length, tuple(row + 40 for row in group)) for length, group in cover)
            beside, behind = side_by_side(one, other), one_behind(one, other)
            self.assertEqual(pieces_length(beside), max(pieces_length(one), pieces_length(other)))
            self.assertEqual(pieces_length(behind), pieces_length(one) + pieces_length(other))
            for row in range(80):
                both = given_to(one, row) + given_to(other, row)
                self.assertEqual((given_to(beside, row), given_to(behind, row)), (both, both))
            half = pieces_length(one) // 2
            joint = one_behind(cut_pieces(one, 0, half), cut_pieces(one, half, 10 ** 13))
            for row, weight in enumerate(weights):
                self.assertEqual(given_to(joint, row), weight)


if __name__ == "__main__":
    unittest.main()
