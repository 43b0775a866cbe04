import unittest
from itertools import combinations

from alikeclash.clashes import is_peace, is_quarrel
from alikeclash.errors import NotUsable, Refused
from alikeclash.finding import chain_of
from alikeclash.loads import load_of, peace_of, quarrel_of, sum_of, worth_of
from alikeclash.loadsplits import split_groups
from alikeclash.rules import opposite
from alikeclash.sidewebs import is_side_web
from alikeclash.spots import spot_ties, spots_of
from alikeclash.throughs import load_through, peace_through, quarrel_through, worth_through
from alikeclash.tryings import tried_load, tried_worth
from tests.samples import (
    DAYS, EMPTY, EMPTY_HELD, FREE, LESSON, LINE, MUX, ONE, PAIRS, WHOLE, all_chains, all_rules, chained_tables, chance_of,
    fast_heaviest, forty_rows, is_triple, open_ones, random_table, slow_groups, slow_heaviest, some_weights, told_rule_of,
)


class SumTest(unittest.TestCase):

    def test_sums(self):
        self.assertEqual(sum_of((3, 1, 4), (0, 2)), 7)
        self.assertEqual(sum_of((), ()), 0)
        self.assertEqual(sum_of((10 ** 12,) * 40, tuple(range(40))), 40 * 10 ** 12)
        self.assertEqual(sum_of((5, 0), (1,)), 0)


class LoadsTest(unittest.TestCase):

    def test_small_tables(self):
        chance = chance_of(57)
        seen = set()
        for ground, rule, chain, table in chained_tables(57):
            seen.update((step[0], step[-1]) for step in chain_of(ground, rule))
            for weights in some_weights(chance, table):
                load = slow_heaviest(rule, table, weights, True)
                worth = slow_heaviest(rule, table, weights, False)
                self.assertEqual(load_of(ground, rule, table, weights), load)
                self.assertEqual(worth_of(ground, rule, table, weights), worth)
                self.group(ground, is_quarrel, rule, table, quarrel_of(ground, rule, table, weights), weights, load)
                self.group(ground, is_peace, rule, table, peace_of(ground, rule, table, weights), weights, worth)
                self.assertEqual(load_of(ground, opposite(ground, rule), table, weights), worth)
        self.assertEqual(len(seen), 6)

    def group(self, ground, right, rule, table, group, weights, weight):
        self.assertIs(type(group), tuple)
        self.assertTrue(right(ground, rule, table, group))
        self.assertEqual(sum_of(weights, group), weight)

    def test_all_plain_chains_of_two_columns(self):
        table = tuple((a, b) for a in range(3) for b in range(3))
        chance = chance_of(570)
        for ground in ((2, ()), (2, (((0,), (1,)),)), ONE, (2, (((), (0,)),))):
            rows = random_table(chance, ground, 30, 3)[:9] if ground != (2, ()) else table
            for chain in all_chains(ground):
                rule = told_rule_of(ground, chain)
                for weights in some_weights(chance, rows):
                    found = load_of(ground, rule, rows, weights), worth_of(ground, rule, rows, weights)
                    slow = tuple(slow_heaviest(rule, rows, weights, word) for word in (True, False))
                    self.assertEqual(found, slow)

    def test_forty_rows(self):
        chance = chance_of(571)
        for ground, rule, pairs, table in forty_rows(571):
            others = set(combinations(range(len(table)), 2)) - pairs
            for weights in some_weights(chance, table)[1:4]:
                load, worth = fast_heaviest(pairs, weights), fast_heaviest(others, weights)
                self.assertEqual(load_of(ground, rule, table, weights), load)
                self.assertEqual(worth_of(ground, rule, table, weights), worth)
                self.group(ground, is_quarrel, rule, table, quarrel_of(ground, rule, table, weights), weights, load)
                self.group(ground, is_peace, rule, table, peace_of(ground, rule, table, weights), weights, worth)

    def test_edges(self):
        for ground in (EMPTY, EMPTY_HELD, WHOLE, FREE, ONE):
            for rule in {(), tuple(open_ones(ground))}:
                self.assertEqual((load_of(ground, rule, (), ()), worth_of(ground, rule, (), ())), (0, 0))
                self.assertEqual((quarrel_of(ground, rule, (), ()), peace_of(ground, rule, (), ())), ((), ()))
                row = ((3,) * ground[0],)
                self.assertEqual((load_of(ground, rule, row, (5,)), worth_of(ground, rule, row, (5,))), (5, 5))
                self.assertEqual((quarrel_of(ground, rule, row, (5,)), peace_of(ground, rule, row, (5,))), ((0,), (0,)))
                self.assertEqual((load_of(ground, rule, row, (0,)), worth_of(ground, rule, row, (0,))), (0, 0))
        forty = tuple((k,) for k in range(40))
        self.assertEqual(load_of(ONE, ((),), forty, (10 ** 12,) * 40), 40 * 10 ** 12)
        self.assertEqual(worth_of(ONE, ((),), forty, (10 ** 12,) * 40), 10 ** 12)

    def test_example(self):
        weights = (3, 2, 1, 3)
        self.assertEqual((load_of(FREE, LESSON, LINE, weights), worth_of(FREE, LESSON, LINE, weights)), (5, 6))
        self.assertEqual(load_of(FREE, LESSON, LINE, (3, 1, 1, 3)), 4)
        self.assertEqual(quarrel_of(FREE, LESSON, LINE, (3, 2, 1, 3)), (0, 1))
        self.assertEqual(peace_of(FREE, LESSON, LINE, (3, 1, 1, 3)), (0, 3))


class ThroughsTest(unittest.TestCase):

    def test_small_tables(self):
        chance = chance_of(58)
        for ground, rule, _, table in chained_tables(58, 2, 8):
            quarrels, peaces = [slow_groups(rule, table, word) for word in (True, False)]
            for weights in some_weights(chance, table):
                for row in range(len(table)):
                    load = max(sum_of(weights, group) for group in quarrels if row in group)
                    worth = max(sum_of(weights, group) for group in peaces if row in group)
                    told = ground, rule, table, weights, row
                    self.assertEqual(load_through(*told), load)
                    self.assertEqual(worth_through(*told), worth)
                    quarrel, peace = quarrel_through(*told), peace_through(*told)
                    self.assertTrue(row in quarrel and row in peace)
                    self.assertTrue(is_quarrel(ground, rule, table, quarrel) and is_peace(ground, rule, table, peace))
                    self.assertEqual((sum_of(weights, quarrel), sum_of(weights, peace)), (load, worth))

    def test_forty_rows(self):
        for ground, rule, pairs, table in forty_rows(580, 1):
            weights = tuple(k % 5 for k in range(len(table)))
            for row in (0, len(table) - 1):
                beside = [other for other in range(len(table)) if {(row, other), (other, row)} & pairs]
                inner = {(i, j) for i, j in pairs if i in beside and j in beside}
                limited = tuple(weight if other in beside else 0 for other, weight in enumerate(weights))
                load = weights[row] + fast_heaviest(inner, limited)
                self.assertEqual(load_through(ground, rule, table, weights, row), load)

    def test_row_of_no_weight(self):
        for row in range(4):
            quarrel = quarrel_through(FREE, LESSON, LINE, (0, 0, 0, 0), row)
            self.assertIn(row, quarrel)
            self.assertEqual(load_through(FREE, LESSON, LINE, (0, 0, 0, 0), row), 0)
        self.assertEqual(load_through(FREE, LESSON, LINE, (3, 0, 1, 3), 1), 3)
        self.assertEqual(worth_through(WHOLE, (), ((1, 2),), (0,), 0), 0)
        self.assertEqual(peace_through(WHOLE, (), ((1, 2),), (0,), 0), (0,))

    def test_example(self):
        weights = (3, 2, 1, 3)
        self.assertEqual(load_through(FREE, LESSON, LINE, weights, 2), 4)
        self.assertEqual(peace_through(FREE, LESSON, LINE, weights, 1), (1, 3))


def alike_groups(table, rows, lot):
    """The groups of the rows by alikeness in the lot, ascending."""
    groups = {}
    for row in rows:
        groups.setdefault(tuple(table[row][column] for column in lot), []).append(row)
    return sorted(tuple(group) for group in groups.values())


class SpotsTest(unittest.TestCase):

    def test_spots(self):
        for ground, rule, _, table in chained_tables(56):
            chain = chain_of(ground, rule)
            state, spots = min(open_ones(ground) + [tuple(range(ground[0]))], key=len), []
            for k, step in enumerate(chain):
                spots.extend((k, state, group) for group in alike_groups(table, range(len(table)), state))
                state = self.behind(ground, state, step)
            self.assertEqual(spots_of(ground, rule, table), tuple(spots))
            self.assertEqual(list(spots), sorted(set(spots)))

    def behind(self, ground, state, step):
        if step[0] == "end":
            return state
        columns = set(step[1]) | set(step[2] if step[0] == "two" else ())
        holding = [lot for lot in open_ones(ground) if columns <= set(lot)]
        return min(holding, key=len) if holding else tuple(range(ground[0]))

    def test_ties(self):
        found = 0
        for ground, rule, _, table in chained_tables(560):
            chain = chain_of(ground, rule)
            spots = spots_of(ground, rule, table)
            for k, step in enumerate(chain):
                if step[0] != "two":
                    self.refused(ground, rule, table, k)
                    continue
                pairs = []
                for number, _, group in spots:
                    if number == k:
                        pairs.append((group, self.slow_web(rule, table, step, group)))
                        found += 1
                self.assertEqual(spot_ties(ground, rule, table, k), tuple(pairs))
                self.assertTrue(all(is_side_web(web) for _, web in pairs))
            for many in (len(chain), len(chain) + 3, 10 ** 12):
                self.refused(ground, rule, table, many)
        self.assertGreater(found, 30)

    def slow_web(self, rule, table, step, group):
        lefts, rights = alike_groups(table, group, step[1]), alike_groups(table, group, step[2])
        web = []
        for left, one in enumerate(lefts):
            for right, other in enumerate(rights):
                rows = [row for row in one if row in other]
                if rows:
                    part = tuple(table[row] for row in rows)
                    web.append((left, right, slow_heaviest(rule, part, (1,) * len(part), True)))
        return tuple(web)

    def refused(self, ground, rule, table, many):
        with self.assertRaises(NotUsable, msg=many) as caught:
            spot_ties(ground, rule, table, many)
        self.assertEqual((caught.exception.word, caught.exception.at), ("many", -1))

    def test_refusals_in_their_order(self):
        for many in (True, False, None, -1, "0", (0,)):
            self.refused(FREE, LESSON, LINE, many)
            self.refused(FREE, PAIRS, LINE, many)
        self.refused(FREE, LESSON, LINE, 1)
        for many in (0, 1, 5, 10 ** 12):
            with self.assertRaises(Refused) as caught:
                spot_ties(FREE, PAIRS, LINE, many)
            self.assertTrue(is_triple(FREE, PAIRS, caught.exception.triple))

    def test_edges(self):
        for ground in (EMPTY, EMPTY_HELD, WHOLE):
            self.assertEqual(spots_of(ground, (), ()), ())
            self.assertEqual(spots_of(ground, (), ((4,) * ground[0],)), ())
            self.refused(ground, (), (), 0)
        self.assertEqual(spots_of(FREE, LESSON, ()), ())
        self.assertEqual(spot_ties(FREE, LESSON, (), 0), ())
        # A step "end" has spots, too.
        self.assertEqual(spots_of(FREE, (), LINE), ((0, (), (0, 1, 2, 3)),))
        spots = ((0, (), (0, 1, 2, 3)),) + tuple((1, (0, 1), (row,)) for row in range(4))
        self.assertEqual(spots_of(FREE, LESSON, LINE), spots)
        self.assertEqual(spots_of(FREE, DAYS, LINE)[1:], ((1, (0,), (0, 1)), (1, (0,), (2, 3))))
        for _, state, group in spots_of(FREE, DAYS, LINE):
            self.assertIn(group, split_groups(FREE, LINE, state))

    def test_weights_above_one(self):
        table = ((0, 0, 0), (0, 0, 1), (0, 0, 2), (0, 1, 0), (1, 1, 1))
        webs = (((0, 1, 2, 3, 4), ((0, 0, 3), (0, 1, 1), (1, 1, 1))),)
        self.assertEqual(spot_ties(FREE, LESSON, table, 0), webs)
        # Within a cell the steps behind decide.
        rule = tuple(lot for lot in open_ones(FREE) if lot in ((0,), (1,), (0, 2), (1, 2)))
        self.assertEqual(chain_of(FREE, rule), (("two", (0,), (1,), False), ("end", False)))
        self.assertEqual(spot_ties(FREE, rule, table, 0), (((0, 1, 2, 3, 4), ((0, 0, 1), (0, 1, 1), (1, 1, 1))),))

    def test_example(self):
        web = ((0, 0, 1), (0, 1, 1), (1, 1, 1), (1, 2, 1))
        self.assertEqual(spot_ties(FREE, LESSON, LINE, 0), (((0, 1, 2, 3), web),))


class RefusedTest(unittest.TestCase):

    def test_rules_without_a_chain(self):
        weights = (1, 1, 1, 1)
        for rule in (PAIRS, MUX):
            for function, rest in (
                (spots_of, ()), (load_of, (weights,)), (quarrel_of, (weights,)), (worth_of, (weights,)),
                (peace_of, (weights,)), (load_through, (weights, 0)), (quarrel_through, (weights, 0)),
                (worth_through, (weights, 0)), (peace_through, (weights, 0)), (spot_ties, (0,)),
            ):
                with self.assertRaises(Refused) as caught:
                    function(FREE, rule, LINE, *rest)
                self.assertTrue(is_triple(FREE, rule, caught.exception.triple))
                with self.assertRaises(NotUsable) as caught:
                    function(FREE, rule, LINE + LINE[:1], *rest)
                self.assertEqual(caught.exception.word, "table")
                for thing in (None, True, -1, "0", (1, 1, 1)) if rest else ():
                    with self.assertRaises(NotUsable):
                        function(FREE, rule, LINE, *rest[:-1], thing)

    def test_no_refusal_where_the_base_is_whole(self):
        for rule in all_rules(WHOLE):
            self.assertEqual(load_of(WHOLE, rule, ((0, 0),), (4,)), 4)

    def test_tried(self):
        for ground, rule, _, table in chained_tables(59, 1):
            ones = (1,) * len(table)
            self.assertEqual(load_of(ground, rule, table, ones), tried_load(ground, rule, table, ones))
            self.assertEqual(worth_of(ground, rule, table, ones), tried_worth(ground, rule, table, ones))


if __name__ == "__main__":
    unittest.main()
