import unittest
from itertools import combinations, combinations_with_replacement, product
from math import comb

from alikeclash.chains import exchanged
from alikeclash.finding import chain_of, has_chain
from alikeclash.rulemoving import held_rule, rule_under
from alikeclash.rules import opposite
from alikeclash.trusting import may_trust, told_lots, ways_of
from tests.samples import (
    BASED, CHAINED, DAYS, EMPTY, EMPTY_HELD, FREE, GROUNDS, KEPT, LARGE, LESSON, MUX, ONE, PAIRS, WHOLE, WIDE,
    all_chains, all_lots, all_rules, chance_of, holds, least, meet, open_ones, plain, random_ground, random_rule,
    said_by,
)

WAYS = ("heaviest", "rooms", "fit", "rounds")
SMALL = (
    EMPTY, EMPTY_HELD, ONE, WHOLE, (2, ()), (2, (((0,), (1,)),)), FREE, KEPT, BASED, (3, (((), (1,)),)),
    (3, (((0, 1), (2,)),)), (3, (((0,), (1,)), ((1,), (0,)))),
)


def rule_told_by(ground, lots):
    return tuple(lot for lot in open_ones(ground) if any(holds(lot, inner) for inner in lots))


def four_rows(ground):
    """The likenesses of all tables of four rows, each as a dict by pairs of rows."""
    pairs = list(combinations(range(4), 2))
    found = []
    for lots in product(open_ones(ground), repeat=6):
        told = dict(zip(pairs, lots))
        if all(fit_together(told[i, j], told[i, k], told[j, k]) for i, j, k in combinations(range(4), 3)):
            found.append(told)
    return found


def fit_together(one, other, third):
    return meet(one, other) == meet(one, third) == meet(other, third)


class TrustingTest(unittest.TestCase):

    def test_told_lots(self):
        chance = chance_of(37)
        cases = [(ground, rule) for ground in SMALL for rule in all_rules(ground)]
        for ground in (CHAINED, LARGE, WIDE, random_ground(chance, 8, 16)):
            cases.extend((ground, random_rule(chance, ground)) for _ in range(9))
            for many in (1, 2, 2, 2, 3):
                cases.append((ground, rule_told_by(ground, chance.sample(all_lots(ground[0]), many))))
        for ground, rule in cases:
            lots = tuple(sorted(least(rule)))
            fine = len(lots) <= 2 and rule_told_by(ground, lots) == rule
            self.assertEqual(told_lots(ground, rule), lots if fine else None)

    def test_ways_of_all_rules(self):
        for ground in SMALL:
            lots = all_lots(ground[0])
            heaviest = {rule_told_by(ground, [lot]) for lot in lots} | {()}
            rooms = {rule_told_by(ground, pair) for pair in combinations_with_replacement(lots, 2)} | {()}
            fit, rounds = set(), set()
            for chain in all_chains(ground):
                rule = tuple(lot for lot in open_ones(ground) if said_by(chain, lot)[0])
                rounds.add(rule)
                if plain(chain) and not [step for step in chain if step[0] == "two"]:
                    fit.add(rule)
            for rule in all_rules(ground):
                right = [rule in told for told in (heaviest, rooms, fit, rounds)]
                self.assertEqual([may_trust(ground, rule, way) for way in WAYS], right)
                self.assertEqual(ways_of(ground, rule), tuple(way for way, word in zip(WAYS, right) if word))

    def test_words_are_words(self):
        for way in WAYS:
            self.assertIs(may_trust(FREE, ((0,), (0, 1), (0, 2)), way), True)
            self.assertIs(may_trust(FREE, PAIRS, way), False)

    def test_rows_that_go_wrong(self):
        """Ways are lost just with a bend of three rows, a path or a claw of four."""
        forms = {
            "heaviest": ((0, 1), (1, 2)), "fit": ((0, 1), (1, 2), (2, 3)), "rooms": ((0, 1), (0, 2), (0, 3)),
        }
        chance = chance_of(370)
        for ground in ((2, ()), (2, (((0,), (1,)),)), KEPT, (3, (((0, 1), (2,)),))):
            tables = four_rows(ground)
            rules = all_rules(ground)
            for rule in chance.sample(rules, min(24, len(rules))):
                for way, wanted in forms.items():
                    rows = 1 + max(max(pair) for pair in wanted)
                    pairs = list(combinations(range(rows), 2))
                    wrong = any(all((told[pair] in rule) == (pair in wanted) for pair in pairs) for told in tables)
                    if way == "heaviest":
                        wrong = wrong or self.bend(ground, rule)
                    self.assertIs(may_trust(ground, rule, way), not wrong, (ground, rule, way))

    def bend(self, ground, rule):
        for one, other in product(rule, repeat=2):
            for third in open_ones(ground):
                if third not in rule and fit_together(one, other, third):
                    return True
        return False

    def test_counts(self):
        """How many rules may be trusted, on grounds without dependences."""
        def many_chains(n):
            return 1 + sum(comb(n, k) * (3 ** k - 2 * 2 ** k + 2) * many_chains(n - k) for k in range(1, n + 1))

        def many_fits(n):
            return 1 + sum(comb(n, k) * many_fits(n - k) for k in range(1, n + 1))

        for n in range(4):
            told = [ways_of((n, ()), rule) for rule in all_rules((n, ()))]
            many = [sum(way in ways for ways in told) for way in WAYS]
            rooms = 2 ** n + (4 ** n - 2 * 3 ** n + 2 ** n) // 2
            self.assertEqual(many, [2 ** n, rooms, many_fits(n), many_chains(n)])

    def test_trust_stays(self):
        chance = chance_of(371)
        for ground in GROUNDS + ((4, ()), (4, (((0, 1), (2,)),))):
            for _ in range(40):
                rule = random_rule(chance, ground)
                if chance.random() < 0.7:
                    rule = rule_told_by(ground, chance.sample(all_lots(ground[0]), min(2, 2 ** ground[0])))
                ways = set(ways_of(ground, rule))
                more = random_ground(chance, ground[0], 2)
                other = (ground[0], tuple(sorted(set(ground[1]) | set(more[1]))))
                self.assertLessEqual(ways, set(ways_of(other, rule_under(ground, rule, other))))
                held, moved = held_rule(ground, rule, chance.choice(all_lots(ground[0])))
                self.assertLessEqual(ways, set(ways_of(held, moved)))
                turned = opposite(ground, rule)
                self.assertEqual({"fit", "rounds"} & ways, {"fit", "rounds"} & set(ways_of(ground, turned)))
                if has_chain(ground, rule):
                    self.assertEqual(chain_of(ground, turned), exchanged(ground, chain_of(ground, rule)))

    def test_edges(self):
        for ground in (EMPTY, EMPTY_HELD, WHOLE):
            self.assertEqual((told_lots(ground, ()), ways_of(ground, ())), ((), WAYS))
        for ground in (ONE, FREE, KEPT, LARGE, WIDE):
            self.assertEqual((told_lots(ground, ()), ways_of(ground, ())), ((), WAYS))
            always = tuple(open_ones(ground))
            self.assertEqual((told_lots(ground, always), ways_of(ground, always)), (((),), WAYS))

    def test_example(self):
        self.assertEqual(told_lots(FREE, LESSON), ((0,), (1,)))
        self.assertEqual(ways_of(FREE, LESSON), ("rooms", "rounds"))
        self.assertIsNone(told_lots(FREE, ((),)))
        self.assertEqual(ways_of(FREE, DAYS), ("rooms", "rounds"))
        self.assertEqual((ways_of(FREE, PAIRS), ways_of(FREE, MUX)), ((), ()))


if __name__ == "__main__":
    unittest.main()
