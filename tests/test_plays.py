import unittest
from itertools import permutations

from alikeclash.errors import NotUsable, Refused
from alikeclash.loads import load_of, worth_of
from alikeclash.plays import best_sequence, first_fit, fit_rounds, heaviest_kept
from alikeclash.trusting import may_trust
from tests.samples import (
    EMPTY, FREE, LESSON, LINE, MUX, PAIRS, WHOLE, chained_tables, chance_of, clashing, forty_rows, is_triple, random_ground,
    random_rule, random_table, slow_heaviest, some_weights, stands,
)


def slow_fit(rule, table, sequence):
    """The rounds that first fit makes, as [10] tells."""
    pairs, rounds = clashing(rule, table), []
    for row in sequence:
        fitting = [group for group in rounds if not any(tuple(sorted((row, other))) in pairs for other in group)]
        if fitting:
            fitting[0].append(row)
        else:
            rounds.append([row])
    return tuple(tuple(sorted(group)) for group in rounds)


def slow_kept(rule, table, weights):
    """The group that heaviest first keeps, as [10] tells."""
    kept, left = (), list(range(len(table)))
    while left:
        row = max(left, key=lambda other: (weights[other], -other))
        left.remove(row)
        if stands(rule, table, tuple(sorted(kept + (row,))), False):
            kept = tuple(sorted(kept + (row,)))
    return kept


def some_rules(number, many=120):
    """Triples of grounds, rules of all kinds, and tables of at most seven rows."""
    chance = chance_of(number)
    for _ in range(many):
        ground = random_ground(chance, chance.randint(0, 4), chance.randint(0, 2))
        yield ground, random_rule(chance, ground), random_table(chance, ground, 20, 3)[:chance.choice((0, 1, 4, 7))]


class FirstFitTest(unittest.TestCase):

    def test_rounds(self):
        chance = chance_of(71)
        for ground, rule, table in some_rules(71):
            for _ in range(4):
                sequence = tuple(chance.sample(range(len(table)), len(table)))
                rounds = slow_fit(rule, table, sequence)
                found = first_fit(ground, rule, table, sequence)
                self.assertEqual(found, rounds)
                self.assertIs(type(found), tuple)
                self.assertEqual(fit_rounds(ground, rule, table, sequence), len(rounds))
                self.assertGreaterEqual(len(rounds), slow_heaviest(rule, table, (1,) * len(table), True))

    def test_forty_rows(self):
        chance = chance_of(710)
        for ground, rule, _, table in forty_rows(710, 1):
            sequence = tuple(chance.sample(range(len(table)), len(table)))
            self.assertEqual(first_fit(ground, rule, table, sequence), slow_fit(rule, table, sequence))

    def test_trusted_rules(self):
        # Where the rule may be trusted, each sequence has as many rounds as the load.
        seen = 0
        for ground, rule, _, table in chained_tables(711, 3, 5):
            if may_trust(ground, rule, "fit"):
                seen += 1
                load = load_of(ground, rule, table, (1,) * len(table))
                for sequence in permutations(range(len(table))):
                    self.assertEqual(fit_rounds(ground, rule, table, sequence), load)
        self.assertGreater(seen, 5)

    def test_edges(self):
        self.assertEqual((first_fit(FREE, LESSON, (), ()), fit_rounds(FREE, LESSON, (), ())), ((), 0))
        self.assertEqual(first_fit(EMPTY, (), ((),), (0,)), ((0,),))
        self.assertEqual(first_fit(FREE, PAIRS, LINE, (3, 2, 1, 0)), ((0, 1, 2, 3),))
        self.assertEqual(first_fit(FREE, LESSON, LINE, (3, 2, 1, 0)), ((1, 3), (0, 2)))
        # A row goes into the first round that is free, not into the last one.
        self.assertEqual(first_fit(FREE, LESSON, LINE, (0, 1, 3, 2)), ((0, 3), (1,), (2,)))

    def test_example(self):
        self.assertEqual(first_fit(FREE, LESSON, LINE, (0, 3, 1, 2)), ((0, 3), (1,), (2,)))
        self.assertEqual(fit_rounds(FREE, LESSON, LINE, (0, 3, 1, 2)), 3)


class HeaviestKeptTest(unittest.TestCase):

    def test_groups(self):
        chance = chance_of(712)
        for ground, rule, table in some_rules(712):
            for weights in some_weights(chance, table):
                kept = heaviest_kept(ground, rule, table, weights)
                self.assertEqual(kept, slow_kept(rule, table, weights))
                self.assertIs(type(kept), tuple)
                weight = sum(weights[row] for row in kept)
                worth = slow_heaviest(rule, table, weights, False)
                self.assertLessEqual(weight, worth)
                if may_trust(ground, rule, "heaviest"):
                    self.assertEqual(weight, worth)

    def test_forty_rows(self):
        chance = chance_of(713)
        for ground, rule, _, table in forty_rows(713, 1):
            weights = tuple(chance.randint(0, 5) for _ in table)
            kept = heaviest_kept(ground, rule, table, weights)
            self.assertEqual(kept, slow_kept(rule, table, weights))
            self.assertLessEqual(sum(weights[row] for row in kept), worth_of(ground, rule, table, weights))

    def test_edges(self):
        self.assertEqual(heaviest_kept(FREE, LESSON, (), ()), ())
        # Rows of weight 0 are taken, too, and of equal rows the least number first.
        self.assertEqual(heaviest_kept(FREE, LESSON, LINE, (0, 0, 0, 0)), (0, 2))
        self.assertEqual(heaviest_kept(FREE, LESSON, LINE, (1, 2, 2, 1)), (1, 3))
        self.assertEqual(heaviest_kept(FREE, LESSON, LINE, (0, 0, 7, 0)), (0, 2))
        self.assertEqual(heaviest_kept(FREE, PAIRS, LINE, (0, 0, 7, 0)), (0, 1, 2, 3))

    def test_example(self):
        self.assertEqual(heaviest_kept(FREE, LESSON, LINE, (3, 1, 1, 3)), (0, 3))


class BestSequenceTest(unittest.TestCase):

    def test_small_tables(self):
        for ground, rule, _, table in chained_tables(714):
            sequence = best_sequence(ground, rule, table)
            self.assertIs(type(sequence), tuple)
            self.assertEqual(sorted(sequence), list(range(len(table))))
            load = slow_heaviest(rule, table, (1,) * len(table), True)
            self.assertEqual(len(slow_fit(rule, table, sequence)), load)

    def test_forty_rows(self):
        for ground, rule, _, table in forty_rows(715, 3):
            sequence = best_sequence(ground, rule, table)
            self.assertEqual(fit_rounds(ground, rule, table, sequence), load_of(ground, rule, table, (1,) * len(table)))

    def test_edges(self):
        self.assertEqual(best_sequence(FREE, LESSON, ()), ())
        self.assertEqual(best_sequence(WHOLE, (), ((1, 2),)), (0,))
        self.assertEqual(fit_rounds(FREE, LESSON, LINE, best_sequence(FREE, LESSON, LINE)), 2)

    def test_rules_without_a_chain(self):
        for rule in (PAIRS, MUX):
            for table in (LINE, ()):
                with self.assertRaises(Refused) as caught:
                    best_sequence(FREE, rule, table)
                self.assertTrue(is_triple(FREE, rule, caught.exception.triple))
            with self.assertRaises(NotUsable) as caught:
                best_sequence(FREE, rule, LINE + LINE)
            self.assertEqual((caught.exception.word, caught.exception.at), ("table", -1))


if __name__ == "__main__":
    unittest.main()
