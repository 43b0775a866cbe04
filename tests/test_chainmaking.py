import unittest

from alikeclash.chainmaking import and_alike, chain_held, or_unlike
from alikeclash.chains import exchanged
from alikeclash.errors import NotUsable, Refused
from alikeclash.finding import chain_of, has_chain
from alikeclash.rulemoving import held_rule
from alikeclash.rules import opposite
from tests.samples import (
    BASED, CHAINED, DAYS, EMPTY, EMPTY_HELD, FREE, GROUNDS, KEPT, LARGE, MUX, PAIRS, WHOLE, all_lots, all_rules,
    chain_rules, chance_of, closing, holds, is_triple, nearly_chained, open_ones, random_rule,
)


def some_cases(number):
    """Triples of grounds, rules and lots."""
    chance = chance_of(number)
    for ground in GROUNDS + (LARGE, (4, ())):
        for many in range(12):
            rule = random_rule(chance, ground) if ground == LARGE else nearly_chained(chance, ground, many % 3)
            for lot in chance.sample(all_lots(ground[0]), min(6, 2 ** ground[0])):
                yield ground, rule, lot


class ChainMakingTest(unittest.TestCase):

    def test_rules(self):
        for ground, rule, lot in some_cases(38):
            both = tuple(other for other in open_ones(ground) if holds(other, lot) and other in rule)
            either = tuple(other for other in open_ones(ground) if not holds(other, lot) or other in rule)
            self.assertEqual(and_alike(ground, rule, lot), both)
            self.assertEqual(or_unlike(ground, rule, lot), either)

    def held(self, ground, rule, lot):
        try:
            return chain_held(ground, rule, lot), None
        except Refused as refused:
            return None, refused.triple

    def test_held(self):
        refused = 0
        for ground, rule, lot in some_cases(380):
            held, moved = held_rule(ground, rule, lot)
            chain, triple = self.held(ground, rule, lot)
            for made in (and_alike(ground, rule, lot), or_unlike(ground, rule, lot)):
                self.assertIs(has_chain(ground, made), triple is None)
            if triple is None:
                self.assertEqual(chain, chain_of(held, moved))
                other = chain_held(ground, opposite(ground, rule), lot)
                self.assertEqual(other, exchanged(held, chain))
            else:
                refused += 1
                self.assertTrue(is_triple(held, moved, triple))
                self.assertTrue(is_triple(ground, rule, triple))
            if has_chain(ground, rule):
                self.assertIsNone(triple)
        self.assertGreater(refused, 12)

    def test_all_rules(self):
        for ground in (FREE, KEPT, BASED):
            for rule in all_rules(ground):
                for lot in all_lots(ground[0]):
                    held, moved = held_rule(ground, rule, lot)
                    told = chain_rules(held)
                    chain, triple = self.held(ground, rule, lot)
                    self.assertEqual(chain, told.get(moved))
                    self.assertIs(triple is None, moved in told)

    def test_edges(self):
        for ground in (EMPTY, EMPTY_HELD, WHOLE, FREE, KEPT, CHAINED):
            whole = tuple(range(ground[0]))
            for rule in all_rules(ground)[:40]:
                self.assertEqual(chain_held(ground, rule, whole), ())
                self.assertEqual(and_alike(ground, rule, whole), ())
                self.assertEqual(or_unlike(ground, rule, whole), tuple(open_ones(ground)))
                self.assertEqual(and_alike(ground, rule, ()), rule)
                self.assertEqual(or_unlike(ground, rule, ()), rule)
        # A lot that is not whole may make the base whole, too.
        self.assertEqual(closing(KEPT, (0, 1)), (0, 1, 2))
        self.assertEqual(chain_held(KEPT, ((0,), (2,)), (0, 1)), ())
        self.assertEqual(chain_held(WHOLE, (), ()), ())

    def test_refusal_comes_behind_all_parameters(self):
        with self.assertRaises(NotUsable) as caught:
            chain_held(FREE, PAIRS, (3,))
        self.assertEqual(caught.exception.word, "lot")
        with self.assertRaises(Refused):
            chain_held(FREE, PAIRS, ())
        self.assertEqual(chain_held(FREE, PAIRS, (0,)), (("two", (0, 1), (0, 2), False),))

    def test_example(self):
        self.assertEqual(and_alike(FREE, PAIRS, (0,)), DAYS)
        self.assertEqual(or_unlike(FREE, (), (0, 2)), ((), (0,), (0, 1), (1,), (1, 2), (2,)))
        self.assertEqual(chain_held(FREE, MUX, (0,)), (("one", (0, 1), True), ("end", False)))


if __name__ == "__main__":
    unittest.main()
