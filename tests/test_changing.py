import unittest

from alikeclash.changing import lowering_rows, raising_rows, spare_of
from alikeclash.clashes import is_peace, is_quarrel
from alikeclash.errors import NotUsable, Refused
from alikeclash.finding import chain_of
from alikeclash.loads import load_of, worth_of
from alikeclash.loadsplits import split_groups, split_loads, weight_off
from alikeclash.nestclasses import Nest
from alikeclash.tablemaking import part_of
from alikeclash.throughs import load_through
from tests.samples import (
    DAYS, EMPTY, EMPTY_HELD, FREE, GROUNDS, LARGE, LESSON, LINE, MUX, ONE, PAIRS, WHOLE, all_lots, chained_tables,
    chance_of, forty_rows, is_triple, likeness, open_ones, random_table, slow_groups, slow_heaviest, some_weights,
)


def with_more(weights, row, more):
    return weights[:row] + (weights[row] + more,) + weights[row + 1:]


class ChangingTest(unittest.TestCase):

    def test_small_tables(self):
        chance = chance_of(590)
        for ground, rule, _, table in chained_tables(590, 2, 8):
            quarrels = slow_groups(rule, table, True)

            def load(weights):
                return max(sum(weights[row] for row in group) for group in quarrels)

            rows = range(len(table))
            for weights in some_weights(chance, table):
                now = load(weights)
                raising = tuple(row for row in rows if load(with_more(weights, row, 1)) > now)
                lowering = tuple(row for row in rows if weights[row] and load(with_more(weights, row, -1)) < now)
                self.assertEqual(raising_rows(ground, rule, table, weights), raising)
                self.assertEqual(lowering_rows(ground, rule, table, weights), lowering)
                heaviest = [group for group in quarrels if sum(weights[row] for row in group) == now]
                for row in rows:
                    spare = spare_of(ground, rule, table, weights, row)
                    self.assertEqual(load(with_more(weights, row, spare)), now)
                    self.assertGreater(load(with_more(weights, row, spare + 1)), now)
                    self.assertEqual(spare, now - load_through(ground, rule, table, weights, row))
                    self.assertIs(row in raising, spare == 0)
                    self.assertIs(row in lowering, weights[row] > 0 and all(row in group for group in heaviest))

    def test_loads_of_heavier_rows(self):
        chance = chance_of(591)
        for ground, rule, _, table in forty_rows(591, 1):
            weights = tuple(chance.randint(0, 9) for _ in table)
            load = load_of(ground, rule, table, weights)
            for row in chance.sample(range(len(table)), min(3, len(table))):
                through = load_through(ground, rule, table, weights, row)
                self.assertEqual(spare_of(ground, rule, table, weights, row), load - through)
                for more in (1, 3, 10 ** 12):
                    found = load_of(ground, rule, table, with_more(weights, row, more))
                    self.assertEqual(found, max(load, through + more))
            raising = raising_rows(ground, rule, table, weights)
            self.assertTrue(raising)
            self.assertLessEqual(set(lowering_rows(ground, rule, table, weights)), set(raising))

    def test_edges(self):
        for ground in (EMPTY, EMPTY_HELD, WHOLE, ONE, FREE):
            self.assertEqual((raising_rows(ground, (), (), ()), lowering_rows(ground, (), (), ())), ((), ()))
            row = ((2,) * ground[0],)
            self.assertEqual((raising_rows(ground, (), row, (0,)), lowering_rows(ground, (), row, (0,))), ((0,), ()))
            self.assertEqual((raising_rows(ground, (), row, (1,)), lowering_rows(ground, (), row, (1,))), ((0,), (0,)))
            self.assertEqual(spare_of(ground, (), row, (9,), 0), 0)
        # Rows of weight 0 may raise the load, but never lower it.
        self.assertEqual(raising_rows(FREE, LESSON, LINE, (0, 0, 0, 0)), (0, 1, 2, 3))
        self.assertEqual(lowering_rows(FREE, LESSON, LINE, (0, 0, 0, 0)), ())
        self.assertEqual(raising_rows(FREE, LESSON, LINE, (3, 0, 1, 1)), (0, 1))
        self.assertEqual(lowering_rows(FREE, LESSON, LINE, (3, 0, 1, 1)), (0,))

    def test_example(self):
        weights = (3, 2, 1, 3)
        self.assertEqual(raising_rows(FREE, LESSON, LINE, weights), (0, 1))
        self.assertEqual(spare_of(FREE, LESSON, LINE, weights, 2), 1)
        self.assertEqual(lowering_rows(FREE, LESSON, LINE, weights), (0, 1))


class SplitsTest(unittest.TestCase):

    def test_groups(self):
        chance = chance_of(60)
        for ground in GROUNDS + (LARGE, (4, ())):
            for most in (0, 1, 6, 40):
                table = random_table(chance, ground, 3 * most, 3)[:most]
                for lot in chance.sample(all_lots(ground[0]), min(8, 2 ** ground[0])):
                    groups = split_groups(ground, table, lot)
                    self.assertEqual(list(groups), sorted(set(groups)))
                    self.assertEqual(sorted(row for group in groups for row in group), list(range(len(table))))
                    for group in groups:
                        self.assertEqual(group, tuple(
                            row for row, entries in enumerate(table)
                            if row == group[0] or set(lot) <= set(likeness(entries, table[group[0]]))
                        ))
        self.assertEqual(split_groups(FREE, LINE, ()), ((0, 1, 2, 3),))
        self.assertEqual(split_groups(FREE, (), ()), ())
        self.assertEqual(split_groups(FREE, LINE, (1,)), ((0,), (1, 2), (3,)))
        self.assertEqual(split_groups(FREE, LINE, (0, 1, 2)), ((0,), (1,), (2,), (3,)))

    def test_loads(self):
        chance = chance_of(600)
        seen = set()
        plainest = [(FREE, rule, None, LINE) for rule in ((), tuple(open_ones(FREE)))]
        for ground, rule, _, table in plainest + list(chained_tables(600, 5, 8)):
            chain = chain_of(ground, rule)
            for weights in some_weights(chance, table):
                step = chain[0] if chain else ("end", True)
                seen.add((step[0], step[-1]))
                columns = tuple(range(ground[0]))
                if step[0] != "end":
                    columns = tuple(sorted({column for lot in step[1:-1] for column in lot}))
                right = []
                for group in split_groups(ground, table, columns):
                    part, some = part_of(ground, table, group), [weights[row] for row in group]
                    right.append((group, slow_heaviest(rule, part, some, True)))
                found = split_loads(ground, rule, table, weights)
                self.assertEqual(found, tuple(right))
                self.assertEqual(self.load_by_split(table, step, found), load_of(ground, rule, table, weights))
                off = weight_off(ground, rule, table, weights)
                self.assertEqual(off, sum(weights) - worth_of(ground, rule, table, weights))
                self.assertEqual(off, sum(weights) - slow_heaviest(rule, table, weights, False))
        self.assertEqual(len(seen), 6)

    def load_by_split(self, table, step, found):
        """The load as the consequences tell it from the loads of the parts."""
        loads = [load for _, load in found]
        if step[0] != "two":
            return sum(loads) if step[-1] else max(loads, default=0)

        def entries(group, lot):
            return tuple(table[group[0]][column] for column in lot)

        cells = [(entries(group, step[1]), entries(group, step[2]), load) for group, load in found]
        if not step[-1]:
            sums = [0]
            for side in (0, 1):
                for cell in cells:
                    sums.append(sum(other[2] for other in cells if other[side] == cell[side]))
            return max(sums)

        def best(cells):
            if not cells:
                return 0
            left, right, load = cells[0]
            apart = [cell for cell in cells[1:] if cell[0] != left and cell[1] != right]
            return max(load + best(apart), best(cells[1:]))

        return best(cells)

    def test_edges(self):
        for ground in (EMPTY, EMPTY_HELD, WHOLE):
            self.assertEqual(split_loads(ground, (), (), ()), ())
            self.assertEqual(split_loads(ground, (), ((1,) * ground[0],), (4,)), (((0,), 4),))
            self.assertEqual(weight_off(ground, (), ((1,) * ground[0],), (4,)), 0)
        self.assertEqual(split_loads(FREE, LESSON, (), ()), ())
        self.assertEqual(split_loads(FREE, (), LINE, (3, 0, 1, 3)), (((0,), 3), ((1,), 0), ((2,), 1), ((3,), 3)))
        self.assertEqual(weight_off(FREE, LESSON, LINE, (3, 1, 1, 3)), 2)

    def test_example(self):
        self.assertEqual(split_loads(FREE, DAYS, LINE, (3, 2, 1, 3)), (((0, 1), 3), ((2, 3), 3)))


class NestTest(unittest.TestCase):

    def check(self, nest, ground, rule, table, weights):
        load, worth = [slow_heaviest(rule, table, weights, word) for word in (True, False)]
        self.assertEqual((nest.load_now(), nest.worth_now()), (load, worth))
        quarrel, peace = nest.quarrel(), nest.peace()
        self.assertTrue(is_quarrel(ground, rule, table, quarrel) and is_peace(ground, rule, table, peace))
        self.assertEqual((sum(weights[row] for row in quarrel), sum(weights[row] for row in peace)), (load, worth))
        for row in range(len(table)):
            through = load_through(ground, rule, table, tuple(weights), row)
            self.assertEqual((nest.through(row), nest.spare(row)), (through, load - through))

    def test_changes(self):
        chance = chance_of(61)
        for ground, rule, _, table in chained_tables(61, 1, 8):
            weights = [chance.randint(0, 4) for _ in table]
            nest = Nest(ground, rule, table, tuple(weights))
            self.check(nest, ground, rule, table, weights)
            for _ in range(4 if table else 0):
                row, many = chance.randrange(len(table)), chance.choice((0, 1, 3, 10 ** 12))
                weights[row] = many
                self.assertEqual(nest.weigh(row, many), slow_heaviest(rule, table, weights, True))
                self.check(nest, ground, rule, table, weights)

    def test_forty_rows(self):
        for ground, rule, _, table in forty_rows(610, 1):
            weights = [k % 4 for k in range(len(table))]
            nest = Nest(ground, rule, table, tuple(weights))
            for row in (0, 1, len(table) - 1):
                weights[row] += 5
                load = nest.weigh(row, weights[row])
                self.assertEqual(load, load_of(ground, rule, table, tuple(weights)))
                self.assertEqual(nest.worth_now(), worth_of(ground, rule, table, tuple(weights)))

    def test_refused_deeds_change_nothing(self):
        nest = Nest(FREE, LESSON, LINE, (3, 1, 1, 3))

        def state():
            return nest.load_now(), nest.worth_now(), [nest.through(row) for row in range(4)]

        before = state()
        for row, many, word in (
            (4, 1, "row"), (-1, 1, "row"), (True, 1, "row"), (None, None, "row"), ("0", 1, "row"), (4, -1, "row"),
            (0, -1, "many"), (0, True, "many"), (0, None, "many"), (3, "7", "many"), (0, (1,), "many"), ([0], 1, "row"),
        ):
            for call in (lambda: nest.weigh(row, many), lambda: nest.weigh(many=many, row=row)):
                with self.assertRaises(NotUsable) as caught:
                    call()
                self.assertEqual((caught.exception.word, caught.exception.at), (word, -1))
            self.assertEqual(state(), before)

    def test_made(self):
        weights = (1, 1, 1, 1)
        for things, word in (
            ((None, None, None, None), "ground"), (((True, ()), (), (), ()), "ground"), ((FREE, [()], None, ()), "rule"),
            ((FREE, PAIRS, list(LINE), None), "table"), ((FREE, PAIRS, LINE, (1, 1, 1)), "weights"),
            ((FREE, PAIRS, LINE, (1, 1, 1, True)), "weights"),
        ):
            with self.assertRaises(NotUsable) as caught:
                Nest(*things)
            self.assertEqual((caught.exception.word, caught.exception.at), (word, -1))
        for rule in (PAIRS, MUX):
            with self.assertRaises(Refused) as caught:
                Nest(FREE, rule, LINE, weights)
            self.assertTrue(is_triple(FREE, rule, caught.exception.triple))
            with self.assertRaises(Refused):
                Nest(FREE, rule, (), ())
        for ground in (EMPTY, WHOLE):
            nest = Nest(ground, (), (), ())
            self.assertEqual((nest.load_now(), nest.worth_now(), nest.quarrel(), nest.peace()), (0, 0, (), ()))

    def test_nests_are_apart(self):
        weights = (3, 1, 1, 3)
        one, other = Nest(FREE, LESSON, LINE, weights), Nest(FREE, LESSON, LINE, weights)
        one.weigh(0, 9)
        self.assertEqual((one.load_now(), other.load_now(), weights), (10, 4, (3, 1, 1, 3)))

    def test_example(self):
        nest = Nest(FREE, LESSON, LINE, (3, 1, 1, 3))
        self.assertEqual((nest.weigh(1, 2), nest.spare(2), nest.worth_now()), (5, 1, 6))


class RefusedTest(unittest.TestCase):

    def test_rules_without_a_chain(self):
        weights = (1, 1, 1, 1)
        for rule in (PAIRS, MUX):
            for function, rest in (
                (raising_rows, (weights,)), (lowering_rows, (weights,)), (spare_of, (weights, 0)),
                (split_loads, (weights,)), (weight_off, (weights,)),
            ):
                with self.assertRaises(Refused) as caught:
                    function(FREE, rule, LINE, *rest)
                self.assertTrue(is_triple(FREE, rule, caught.exception.triple))
                with self.assertRaises(NotUsable) as caught:
                    function(FREE, rule, LINE + LINE[:1], *rest)
                self.assertEqual(caught.exception.word, "table")
                for thing in (None, True, -1, "0", (1, 1, 1)):
                    with self.assertRaises(NotUsable):
                        function(FREE, rule, LINE, *rest[:-1], thing)
        # This one has no rule, so nothing is refused.
        self.assertEqual(split_groups(FREE, LINE, (0,)), ((0, 1), (2, 3)))


if __name__ == "__main__":
    unittest.main()
