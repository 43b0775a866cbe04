import unittest
from collections import Counter
from itertools import combinations

from alikeclash.errors import Blocked, NotUsable
from alikeclash.exchanges import kept_plan
from alikeclash.formulas import room_formula, web_of_rows
from alikeclash.loads import load_of
from alikeclash.pieces import is_pieces, pieces_length
from alikeclash.roomchecker import lets_rooms
from alikeclash.roomplans import even_plan, room_plan
from alikeclash.roundplans import rounds_plan
from alikeclash.rulemaking import told_rule
from alikeclash.trusting import told_lots
from alikeclash.tryings import tried_room_rounds
from tests.samples import (
    CHAINED, DAYS, EMPTY, EMPTY_HELD, FREE, KEPT, LESSON, LINE, MUX, ODD, ONE, PAIRS, WHOLE, all_lots, chance_of, clashing,
    fault_of, given, likeness, open_ones, random_ground, random_rule, random_table, regrouped, slow_groups, slow_heaviest,
    slow_plan_fault, some_weights, spoilt,
)

PLAN = ((1, (0, 2)), (2, (0, 3)), (1, (1, 3)))


def told_tables(number, many, most=7):
    """Triples of grounds, rules that no lot, one or two tell, and tables of at most so many rows."""
    chance = chance_of(number)
    grounds = (FREE, KEPT, CHAINED, ONE, EMPTY, EMPTY_HELD, WHOLE, (4, ()), (4, (((0, 1), (2,)),)))
    for _ in range(many):
        for ground in grounds:
            lots = chance.sample(all_lots(ground[0]), min(chance.choice((0, 1, 2, 2)), 2 ** ground[0]))
            table = random_table(chance, ground, 5 * most, chance.choice((2, 3, 5)))[:chance.choice((most, most, 4, 1, 0))]
            yield ground, told_rule(ground, tuple(lots)), table


def forty_told(number):
    """The same with forty rows."""
    chance = chance_of(number)
    for ground, lots in (
        (FREE, ((0,), (1,))), ((4, ()), ((0, 1), (2,))), ((4, ()), ((0, 1), (1, 2))), (KEPT, ((0,), (1,))), (ONE, ()),
        (FREE, ((0,),)), (FREE, ((),)),
    ):
        for numbers in (5, 12):
            table = random_table(chance, ground, 300, numbers)[:40]
            yield ground, told_rule(ground, lots), table


class FormulasTest(unittest.TestCase):

    def test_webs(self):
        for ground, rule, table in list(told_tables(68, 12)) + list(forty_told(68)):
            pairs = web_of_rows(ground, rule, table)
            self.assertEqual((type(pairs), len(pairs)), (tuple, len(table)))
            told = told_lots(ground, rule)
            for row, pair in enumerate(pairs):
                self.assertIs(type(pair), tuple)
                for side in (0, 1):
                    least = row
                    if side < len(told):
                        least = min(
                            other for other in range(len(table))
                            if other == row or set(told[side]) <= set(likeness(table[other], table[row]))
                        )
                    self.assertEqual(pair[side], least)
            rows = combinations(range(len(table)), 2)
            alike = {(i, j) for i, j in rows if pairs[i][0] == pairs[j][0] or pairs[i][1] == pairs[j][1]}
            self.assertEqual(alike, clashing(rule, table))

    def test_no_lot_one_lot_and_the_base(self):
        self.assertEqual(web_of_rows(FREE, (), LINE), ((0, 0), (1, 1), (2, 2), (3, 3)))
        self.assertEqual(web_of_rows(FREE, ((0,), (0, 1), (0, 2)), LINE), ((0, 0), (0, 1), (2, 2), (2, 3)))
        self.assertEqual(web_of_rows(FREE, tuple(open_ones(FREE)), LINE), ((0, 0), (0, 1), (0, 2), (0, 3)))
        self.assertEqual(web_of_rows(FREE, LESSON, ()), ())
        self.assertEqual(web_of_rows(EMPTY, (), ((),)), ((0, 0),))

    def test_formulas(self):
        chance = chance_of(680)
        for ground, rule, table in told_tables(680, 6):
            for weights in some_weights(chance, table):
                load, total = slow_heaviest(rule, table, weights, True), sum(weights)
                for rooms in (1, 2, 3, max(1, len(table)), 41, 10 ** 12):
                    right = max(load, -(-total // rooms))
                    self.assertEqual(room_formula(ground, rule, table, weights, rooms), right)
                self.assertEqual(room_formula(ground, rule, table, weights, 1), total)
                self.assertEqual(room_formula(ground, rule, table, weights, max(1, len(table))), load)
        for ground, rule, table in forty_told(681):
            weights = tuple(chance.randint(0, 10 ** 12) for _ in table)
            load = load_of(ground, rule, table, weights)
            for rooms in (1, 2, 7, 39, 40, 41):
                self.assertEqual(room_formula(ground, rule, table, weights, rooms), max(load, -(-sum(weights) // rooms)))
        self.assertEqual(room_formula(FREE, LESSON, LINE, (0, 0, 0, 0), 1), 0)
        self.assertEqual(room_formula(FREE, LESSON, (), (), 3), 0)

    def test_example(self):
        self.assertEqual(web_of_rows(FREE, LESSON, LINE), ((0, 0), (0, 1), (2, 1), (2, 3)))
        self.assertEqual(room_formula(FREE, LESSON, LINE, (3, 1, 1, 3), 2), 4)


class RoomPlansTest(unittest.TestCase):

    def check(self, ground, rule, table, weights, rooms):
        plan = room_plan(ground, rule, table, weights, rooms)
        self.assertIs(is_pieces(len(table), plan), True)
        self.assertIsNone(slow_plan_fault(rule, table, weights, plan, False, rooms))
        self.assertEqual(sum(length for length, _ in plan), room_formula(ground, rule, table, weights, rooms))
        self.assertLessEqual(len(plan), 6 * len(table))
        self.assertEqual(lets_rooms(ground, rule, table, weights, rooms, plan), pieces_length(plan))

    def check_even(self, ground, rule, table, weights, many):
        plan = even_plan(ground, rule, table, weights, many)
        self.assertIs(is_pieces(len(table), plan), True)
        self.assertIsNone(slow_plan_fault(rule, table, weights, plan, False))
        self.assertEqual(sum(length for length, _ in plan), many)
        self.assertLessEqual(len(plan), 6 * len(table))
        total = sum(weights)
        self.assertLessEqual({len(group) for _, group in plan}, {total // many, -(-total // many)})

    def test_small_tables(self):
        chance = chance_of(69)
        for ground, rule, table in told_tables(69, 8):
            for weights in some_weights(chance, table):
                for rooms in (1, 2, 3, max(1, len(table) - 1), max(1, len(table)), len(table) + 1, 10 ** 12):
                    self.check(ground, rule, table, weights, rooms)
            ones = (1,) * len(table)
            for rooms in (1, 2, 3, 4):
                tried = tried_room_rounds(ground, rule, table, rooms)
                self.assertEqual(pieces_length(room_plan(ground, rule, table, ones, rooms)), tried)

    def test_forty_rows(self):
        chance = chance_of(690)
        for ground, rule, table in forty_told(690):
            for weights in some_weights(chance, table)[2:3] + (tuple(chance.randint(0, 10 ** 12) for _ in table),):
                for rooms in (1, 2, 17):
                    self.check(ground, rule, table, weights, rooms)
                load, total = load_of(ground, rule, table, weights), sum(weights)
                for many in {load, load + 1, (load + total) // 2, total - 1, total}:
                    if load <= many <= total:
                        self.check_even(ground, rule, table, weights, many)

    def test_even_plans(self):
        chance = chance_of(691)
        for ground, rule, table in told_tables(691, 8):
            for weights in some_weights(chance, table):
                load, total = slow_heaviest(rule, table, weights, True), sum(weights)
                most = min(total, load + 40)
                for many in [*range(max(1, load), most + 1), total]:
                    if many > 0:
                        self.check_even(ground, rule, table, weights, many)
                for many in (0, load - 1, total + 1, 2 * total + 5):
                    if many == 0 or not load <= many <= total:
                        with self.assertRaises(NotUsable) as caught:
                            even_plan(ground, rule, table, weights, many)
                        self.assertEqual((caught.exception.word, caught.exception.at), ("many", -1))

    def test_edges(self):
        for weights in ((0, 0, 0, 0), (0, 0, 5, 0)):
            for rooms in (1, 2, 5):
                self.check(FREE, LESSON, LINE, weights, rooms)
        self.assertEqual(room_plan(FREE, LESSON, (), (), 1), ())
        self.assertEqual(room_plan(FREE, LESSON, LINE, (0, 0, 0, 0), 3), ())
        self.assertEqual(room_plan(EMPTY, (), ((),), (4,), 1), ((4, (0,)),))
        forty = tuple((k, 0, 0) for k in range(40))
        self.assertEqual(room_plan(FREE, LESSON, forty, (1,) * 40, 40)[0][0], 1)
        self.check(FREE, (), forty, (10 ** 12,) * 40, 7)
        self.check(FREE, (), forty, tuple(range(40)), 7)

    def test_rules_that_more_lots_tell(self):
        three = told_rule(FREE, ((0,), (1,), (2,)))
        for rule in (PAIRS, MUX, three, ((),), ((0,),)):
            self.assertIsNone(told_lots(FREE, rule))
            ones = (1, 1, 1, 1)
            for function, rest, wrong in (
                (web_of_rows, (), ()), (room_formula, (ones, 2), (("rooms", (ones, 0)), ("weights", ((1,), 0)))),
                (room_plan, (ones, 2), (("rooms", (ones, True)), ("weights", ((1,), 0)))),
                (even_plan, (ones, 2), (("many", (ones, -1)), ("many", (ones, None)), ("weights", ((1,), -1)))),
                (even_plan, (ones, 0), ()), (even_plan, (ones, 9), ()), (even_plan, (ones, 10 ** 12), ()),
                (kept_plan, (ones, tuple((1, (row,)) for row in range(4)), 0), (
                    ("row", (ones, tuple((1, (row,)) for row in range(4)), 4)), ("pieces_told", (ones, (), 4)),
                )),
            ):
                with self.assertRaises(NotUsable) as caught:
                    function(FREE, rule, LINE, *rest)
                self.assertEqual((caught.exception.word, caught.exception.at), ("rule", -1))
                for word, told in wrong:
                    with self.assertRaises(NotUsable) as caught:
                        function(FREE, rule, LINE, *told)
                    self.assertEqual((caught.exception.word, caught.exception.at), (word, -1))
        # A rule is told by a lot that is not closed if it is by the closing of it.
        self.assertEqual(web_of_rows(KEPT, told_rule(KEPT, ((1,),)), ((0, 0, 1), (1, 0, 1))), ((0, 0), (0, 1)))
        self.assertEqual(pieces_length(room_plan(FREE, ((0,), (0, 1), (0, 2)), LINE, (3, 1, 1, 3), 2)), 4)
        self.assertEqual(told_lots(FREE, DAYS), ((0, 1), (0, 2)))

    def test_example(self):
        self.check(FREE, LESSON, LINE, (3, 1, 1, 3), 2)
        self.check_even(FREE, LESSON, LINE, (3, 1, 1, 3), 4)
        self.check_even(FREE, LESSON, LINE, (3, 1, 1, 3), 5)


def slow_lets_rooms(rule, table, weights, rooms, thing):
    """What lets_rooms returns, or the word and the place of the fault, as [70] tells."""
    if type(thing) is not tuple:
        return "shape", -1
    fault = slow_plan_fault(rule, table, weights, thing, False, rooms)
    return fault or sum(length for length, _ in thing)


class RoomCheckerTest(unittest.TestCase):

    def fault(self, thing, rooms=2, rule=LESSON, weights=(3, 1, 1, 3)):
        return fault_of(lets_rooms, FREE, rule, LINE, weights, rooms, thing)

    def test_shape_and_pieces(self):
        for thing in ODD:
            if type(thing) is not tuple:
                self.assertEqual(self.fault(thing), ("shape", -1), thing)
        self.assertEqual(self.fault(list(PLAN)), ("shape", -1))
        for piece in (None, (), [1, (0,)], (0, (0,)), (True, (0,)), (1, ()), (1, (1, 0)), (1, (4,)), (1, (0,), 0), 1):
            self.assertEqual(self.fault(PLAN[:1] + (piece,)), ("piece", 1), piece)
            self.assertEqual(self.fault(((1, (0, 1)), piece)), ("clash", 0), piece)
            self.assertEqual(self.fault(((1, (0, 2)), piece), 1), ("rooms", 0), piece)

    def test_rooms_and_given(self):
        self.assertEqual(self.fault(PLAN), 4)
        self.assertEqual(self.fault(PLAN, 10 ** 12), 4)
        self.assertEqual(self.fault(PLAN, 1), ("rooms", 0))
        self.assertEqual(self.fault(((3, (0,)), (1, (0, 1, 2))), 1), ("clash", 1))
        self.assertEqual(self.fault(((3, (0,)), (1, (0, 3)), (1, (1, 2))), 1), ("rooms", 1))
        # A plan may be longer than it has to be.
        self.assertEqual(self.fault(tuple((length, (row,)) for row, length in enumerate((3, 1, 1, 3)))), 8)
        self.assertEqual(self.fault(PLAN[:2]), ("given", 1))
        self.assertEqual(self.fault(PLAN + PLAN[:1]), ("given", 0))
        self.assertEqual(self.fault((), 1, (), (0, 0, 0, 0)), 0)
        self.assertEqual(self.fault((), 1, (), (0, 0, 0, 1)), ("given", 3))

    def test_all_kinds(self):
        chance = chance_of(70)
        seen = {}
        for _ in range(400):
            ground = random_ground(chance, 3, chance.randint(0, 1))
            rule = random_rule(chance, ground)
            table = random_table(chance, ground, 12, 3)[:5]
            weights = some_weights(chance, table)[chance.choice((0, 1, 2, 4))]
            rooms = chance.choice((1, 1, 2, 3))
            plan = tuple((weight, (row,)) for row, weight in enumerate(weights) if weight)
            for thing in (plan, spoilt(chance, plan), spoilt(chance, plan), regrouped(chance, plan, len(table))):
                right = slow_lets_rooms(rule, table, weights, rooms, thing)
                self.assertEqual(fault_of(lets_rooms, ground, rule, table, weights, rooms, thing), right, thing)
                word = right[0] if type(right) is tuple else "right"
                seen[word] = seen.get(word, 0) + 1
        self.assertEqual(set(seen), {"shape", "piece", "clash", "rooms", "given", "right"})
        self.assertGreater(min(seen.values()), 10, seen)

    def test_rules_without_a_chain(self):
        for rule in (PAIRS, MUX):
            apart = tuple((1, (row,)) for row in range(4))
            self.assertEqual(self.fault(apart, 1, rule, (1, 1, 1, 1)), 4)

    def test_example(self):
        self.assertEqual(lets_rooms(FREE, LESSON, LINE, (3, 1, 1, 3), 2, PLAN), 4)


def rounds_in(plan):
    """How many rounds there are of each group."""
    rounds = Counter()
    for length, group in plan:
        rounds[group] += length
    return rounds


class KeptPlanTest(unittest.TestCase):

    def check(self, ground, rule, table, weights, plan, row):
        load = max(sum(weights[other] for other in group) for group in self.quarrels if row in group)
        length = pieces_length(plan)
        more = weights[:row] + (weights[row] + 1,) + weights[row + 1:]
        if load == length:
            with self.assertRaises(Blocked) as caught:
                kept_plan(ground, rule, table, weights, plan, row)
            group = caught.exception.group
            self.assertIn(group, self.quarrels)
            self.assertIn(row, group)
            self.assertEqual(sum(weights[other] for other in group), length)
            return
        kept = kept_plan(ground, rule, table, weights, plan, row)
        self.assertIs(is_pieces(len(table), kept), True)
        self.assertIsNone(slow_plan_fault(rule, table, more, kept, False))
        self.assertEqual(pieces_length(kept), length)
        self.assertLessEqual(len(kept), len(plan) + 2)
        changed = rounds_in(plan) - rounds_in(kept)
        self.changes[sum(changed.values())] += 1
        self.assertLessEqual(sum(changed.values()), 2)

    def plans(self, chance, ground, rule, table, weights):
        """Plans of rounds for the weights, of several lengths."""
        yield rounds_plan(ground, rule, table, weights)
        for rooms in (1, 2, 3):
            yield room_plan(ground, rule, table, weights, rooms)
        pieces = [piece for piece in rounds_plan(ground, rule, table, weights)]
        parts = [(1, group) for length, group in pieces for _ in range(min(2, length))]
        parts += [(length - 2, group) for length, group in pieces if length > 2]
        yield tuple(chance.sample(parts, len(parts)))

    def test_small_tables(self):
        chance = chance_of(700)
        self.changes = Counter()
        for ground, rule, table in told_tables(700, 3, 8):
            self.quarrels = slow_groups(rule, table, True)
            for weights in some_weights(chance, table):
                for plan in self.plans(chance, ground, rule, table, weights):
                    for row in range(len(table)):
                        self.check(ground, rule, table, weights, plan, row)

    def test_grids(self):
        chance = chance_of(702)
        self.changes = Counter()
        ground, rule = (2, ()), ((0,), (1,))
        grid = [(a, b) for a in range(4) for b in range(4)]
        for _ in range(60):
            table = tuple(chance.sample(grid, 8))
            self.quarrels = slow_groups(rule, table, True)
            weights = tuple(chance.randint(0, 2) for _ in table)
            for plan in self.plans(chance, ground, rule, table, weights):
                for row in range(len(table)):
                    self.check(ground, rule, table, weights, plan, row)
        self.assertGreater(self.changes[2], 20)
        self.assertEqual(set(self.changes), {1, 2})

    def test_forty_rows(self):
        self.changes = Counter()
        for ground, rule, table in forty_told(701):
            weights = tuple(row % 4 for row in range(len(table)))
            plan = rounds_plan(ground, rule, table, weights)
            pairs = web_of_rows(ground, rule, table)
            rows = range(len(table))
            self.quarrels = [
                tuple(row for row in rows if pairs[row][side] == end) for side in (0, 1) for end in rows
            ]
            for row in range(0, len(table), 5):
                self.check(ground, rule, table, weights, plan, row)

    def test_row_by_row(self):
        # A plan for small weights is filled up by one more of a row each time.
        plan, weights = tuple((1, (row,)) for row in range(4)), [1, 1, 1, 1]
        for row in (0, 3, 0, 3):
            plan = kept_plan(FREE, LESSON, LINE, tuple(weights), plan, row)
            weights[row] += 1
            self.assertEqual(lets_rooms(FREE, LESSON, LINE, tuple(weights), 4, plan), 4)
        with self.assertRaises(Blocked) as caught:
            kept_plan(FREE, LESSON, LINE, tuple(weights), plan, 1)
        self.assertEqual(caught.exception.group, (0, 1))

    def test_edges(self):
        for row in range(4):
            with self.assertRaises(Blocked) as caught:
                kept_plan(FREE, LESSON, LINE, (0, 0, 0, 0), (), row)
            self.assertIn(row, caught.exception.group)
        huge = 10 ** 12
        kept = kept_plan(FREE, (), LINE, (huge, 0, 0, 0), ((huge, (0,)),), 1)
        self.assertEqual(sorted(kept), [(1, (0, 1)), (huge - 1, (0,))])

    def test_what_is_no_plan(self):
        for weights, plan in (
            ((3, 1, 1, 3), PLAN[:2]), ((3, 1, 1, 4), PLAN), ((3, 1, 1, 3), ((1, (0, 1)), (2, (0,)), (1, (2, 3)), (2, (3,)))),
            ((3, 1, 1, 3), list(PLAN)), ((0, 0, 0, 0), ((0, (0,)),)), ((0, 0, 0, 0), None), ((1, 0, 0, 0), ((True, (0,)),)),
            ((1, 0, 0, 0), ((1, (0,)), (1, ()))), ((1, 0, 0, 0), ((1, (0, 4)),)),
        ):
            with self.assertRaises(NotUsable) as caught:
                kept_plan(FREE, LESSON, LINE, weights, plan, 4)
            self.assertEqual((caught.exception.word, caught.exception.at), ("pieces_told", -1))

    def test_example(self):
        kept = kept_plan(FREE, LESSON, LINE, (1, 1, 1, 0), ((1, (0, 2)), (1, (1,))), 3)
        self.assertEqual(sorted(kept), [(1, (0, 2)), (1, (1, 3))])
        with self.assertRaises(Blocked) as caught:
            kept_plan(FREE, LESSON, LINE, (3, 1, 1, 3), PLAN, 1)
        self.assertEqual(caught.exception.group, (0, 1))
        self.assertEqual(given(kept, 3), 1)


if __name__ == "__main__":
    unittest.main()
