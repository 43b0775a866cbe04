import unittest
from itertools import product

from alikeclash.errors import InvalidPaper, NotUsable
from alikeclash.finding import has_chain, next_step
from alikeclash.likechecker import lets_likeness
from alikeclash.ringlikes import ring_likes
from alikeclash.ringtables import ring_table
from alikeclash.rulemoving import held_rule
from alikeclash.rules import opposite
from alikeclash.tables import likenesses
from alikeclash.triplechecker import lets_triple
from alikeclash.triples import triple_at, triple_of
from alikeclash.tryings import tried_cover, tried_load, tried_rounds, tried_worth
from alikeclash.webforms import ring_word
from tests.samples import (
    BASED, DAYS, EMPTY, EMPTY_HELD, FREE, GROUNDS, KEPT, LARGE, LESSON, MUX, ODD, ONE, PAIRS, WHOLE, WIDE,
    all_rules, chance_of, closed, closing, holds, is_plain_table, is_triple, meet, nearly_chained, open_ones,
    random_ground, random_rule,
)

TURN = ((0,), (0, 1), (0, 2), (1,))
SOME = ((0,), (0, 1), (0, 2), (1,), (1, 2), (2,))
SMALL = ((2, ()), FREE, KEPT, BASED, (3, (((0, 1), (2,)),)), (3, (((), (1,)),)))


def some_cases(number, many=8):
    """Pairs of grounds and rules, most of them without a chain."""
    chance = chance_of(number)
    grounds = [random_ground(chance, size, deps) for size in (3, 4, 5) for deps in (0, 1, 4)]
    for ground in list(GROUNDS) + grounds:
        for turned in range(many):
            yield ground, nearly_chained(chance, ground, turned % 4)
    for ground in (LARGE, WIDE, random_ground(chance, 7, 16)):
        for _ in range(3):
            yield ground, random_rule(chance, ground)


def all_triples(ground, rule):
    lots = open_ones(ground)
    triples = [(form, *three) for form in ("three", "two") for three in product(lots, repeat=3)]
    return [triple for triple in triples if is_triple(ground, rule, triple)]


def slow_fault(ground, rule, triple):
    """What is wrong with a tuple of a form and three lots, as the document tells; None if nothing is."""
    form, a, b, c = triple
    for k in (1, 2, 3):
        lot = triple[k]
        if not closed(ground, lot) or len(lot) == ground[0]:
            return "lot", k
    if form == "three" and not a < b < c:
        return "within", -1
    if form == "two" and (not holds(c, a) or a == c or holds(c, b)):
        return "within", -1
    word = a in rule
    if form == "three":
        wanted = [(a, word), (b, word), (c, word)]
        wanted += [(lot, not word) for lot in (meet(a, b), meet(a, c), meet(b, c), meet(a, b, c))]
    else:
        wanted = [(a, word), (b, word), (c, not word), (meet(a, b), not word), (meet(b, c), not word)]
        last = closing(ground, a + meet(b, c))
        wanted += [(last, word)] if last != c else []
    for k, (lot, right) in enumerate(wanted):
        if (lot in rule) != right:
            return "said", k
    return None


class CheckerTest(unittest.TestCase):

    def fault(self, ground, rule, thing):
        try:
            self.assertIs(lets_triple(ground, rule, thing), thing[1] in rule)
        except InvalidPaper as wrong:
            return wrong.word, wrong.at
        return None

    def test_all_triples(self):
        chance = chance_of(43)
        found = set()
        for ground in SMALL:
            lots = [lot for many in range(4) for lot in [tuple(range(many)), (1,), (2,), (0, 2), (1, 2)]]
            lots = sorted({lot for lot in lots if all(column < ground[0] for column in lot)})
            things = [(form, *three) for form in ("three", "two") for three in product(lots, repeat=3)]
            rules = chance.sample(all_rules(ground), min(20, len(all_rules(ground))))
            for rule in rules + ([((),) + PAIRS] if ground == FREE else []):
                for thing in things:
                    right = slow_fault(ground, rule, thing)
                    self.assertEqual(self.fault(ground, rule, thing), right)
                    self.assertIs(right is None, is_triple(ground, rule, thing))
                    found.add((thing[0], right))
        for k in range(1, 7):
            self.assertIn(("three", ("said", k)), found)
        for k in range(1, 5):
            self.assertIn(("two", ("said", k)), found)

    def test_closings(self):
        ground, rule, thing = (4, ()), ((0,), (1, 3)), ("two", (0,), (1, 3), (0, 1, 2))
        self.assertEqual(self.fault(ground, rule, thing), ("said", 5))
        self.assertIsNone(self.fault(ground, ((0,), (0, 1), (1, 3)), thing))
        # Where the closing is the third lot, nothing is asked of it.
        self.assertIsNone(self.fault((4, (((0, 1), (2,)),)), rule, thing))

    def test_shape(self):
        a, b, c = (0, 1), (0, 2), (1, 2)
        wrong = [
            ["three", a, b, c], ("three", a, b), ("three", a, b, c, c), ("four", a, b, c), (3, a, b, c), (True, a, b, c),
            (("three",), a, b, c), (a, b, c), ("Three", a, b, c), (None, a, b, c), (["two"], a, b, c), "three", (),
        ]
        for thing in wrong + list(ODD):
            self.assertEqual(self.fault(FREE, PAIRS, thing), ("shape", -1), thing)

    def test_lots(self):
        good = {"three": ("three", (0, 1), (0, 2), (1, 2)), "two": ("two", (0,), (1, 2), (0, 1))}
        for form, rule in (("three", PAIRS), ("two", MUX)):
            for k in (1, 2, 3):
                for lot in (None, 0, [0], (3,), (0, 1, 2), (1, 0), (True,), (0, True), "0", ((0,),), (-1,), (0, 0)):
                    thing = good[form][:k] + (lot,) + good[form][k + 1:]
                    self.assertEqual(self.fault(FREE, rule, thing), ("lot", k), thing)
                    # The first of several is told.
                    thing = good[form][:k] + (lot,) * (4 - k)
                    self.assertEqual(self.fault(FREE, rule, thing), ("lot", k), thing)
        self.assertEqual(self.fault(KEPT, (), ("two", (0,), (1,), (1, 2))), ("lot", 2))

    def test_rule_without_a_triple(self):
        for ground in ((2, ()), KEPT, BASED):
            for rule in all_rules(ground):
                triples = all_triples(ground, rule)
                self.assertIs(has_chain(ground, rule), not triples)
                for triple in triples:
                    self.assertIs(lets_triple(ground, rule, triple), triple[1] in rule)
                    other = opposite(ground, rule)
                    self.assertIs(lets_triple(ground, other, triple), triple[1] not in rule)

    def test_example(self):
        self.assertIs(lets_triple(FREE, PAIRS, ("three", (0, 1), (0, 2), (1, 2))), True)
        self.assertIs(lets_triple(FREE, MUX, ("two", (0,), (1, 2), (0, 1))), True)
        self.assertEqual(self.fault(FREE, LESSON, ("three", (0,), (1,), (2,))), ("said", 2))


class TriplesTest(unittest.TestCase):

    def test_found(self):
        forms = {"three": 0, "two": 0}
        for ground, rule in some_cases(44):
            triple = triple_of(ground, rule)
            self.assertIs(triple is None, has_chain(ground, rule))
            if triple is not None:
                forms[triple[0]] += 1
                self.assertTrue(is_triple(ground, rule, triple))
                self.assertTrue(is_triple(ground, opposite(ground, rule), triple))
        self.assertGreater(min(forms.values()), 9)

    def test_all_rules(self):
        for ground in SMALL:
            for rule in all_rules(ground):
                triple = triple_of(ground, rule)
                self.assertIs(triple is None, has_chain(ground, rule))
                self.assertTrue(triple is None or is_triple(ground, rule, triple))

    def test_at_lots(self):
        chance = chance_of(440)
        found = 0
        for ground, rule in some_cases(441):
            lots = chance.sample(open_ones(ground), min(12, len(open_ones(ground))))
            for lot in lots:
                if next_step(ground, rule, lot) is None:
                    found += 1
                    triple = triple_at(ground, rule, lot)
                    self.assertTrue(is_triple(ground, rule, triple))
                    self.assertTrue(all(holds(other, lot) for other in triple[1:]))
                else:
                    self.refused(ground, rule, lot)
        self.assertGreater(found, 30)

    def refused(self, ground, rule, lot):
        with self.assertRaises(NotUsable, msg=lot) as caught:
            triple_at(ground, rule, lot)
        self.assertEqual((caught.exception.word, caught.exception.at), ("lot", -1))

    def test_lots_that_are_not_reached(self):
        # The chain of the rule goes from () to (0,), but at (1,) there is no step.
        ground = (4, ())
        rule = tuple(lot for lot in open_ones(ground) if 0 in lot)
        self.assertIsNone(triple_of(ground, rule))
        self.refused(ground, rule, ())
        rule = ((1, 2), (1, 3), (0, 1))
        rule = tuple(sorted(rule))
        self.assertIsNone(next_step(ground, rule, (1,)))
        self.assertTrue(all(holds(lot, (1,)) for lot in triple_at(ground, rule, (1,))[1:]))
        for lot in ((0, 1, 2, 3), (4,), [1], None, (True,), (1, 1)):
            self.refused(ground, rule, lot)
        for ground in (EMPTY, EMPTY_HELD, WHOLE):
            self.assertIsNone(triple_of(ground, ()))
            self.refused(ground, (), ())
        self.refused(KEPT, (), (1,))

    def test_held(self):
        for ground, rule in some_cases(442, 4):
            for lot in ((), tuple(range(ground[0]))[:1], tuple(range(ground[0]))[1:2]):
                triple = triple_of(*held_rule(ground, rule, lot))
                self.assertTrue(triple is None or is_triple(ground, rule, triple))

    def test_example(self):
        self.assertIsNone(triple_of(FREE, LESSON))
        self.assertIsNone(triple_of(FREE, DAYS))
        self.assertIs(lets_triple(FREE, MUX, triple_at(FREE, MUX, ())), True)
        self.assertEqual(triple_of(FREE, PAIRS), ("three", (0, 1), (0, 2), (1, 2)))


class RingsTest(unittest.TestCase):

    def rows_due(self, ground, triple):
        form, a, b, c = triple
        if form == "three":
            return 5 if meet(a, b) == meet(a, c) == meet(b, c) else 7
        return 5 if closing(ground, a + meet(b, c)) != c else 7

    def check(self, ground, rule, triple):
        """Judge the ring of a triple by the document's sentences; return its form, rows and word."""
        form, a, b, c = triple
        word = a in rule
        likes = ring_likes(ground, rule, triple)
        many = self.rows_due(ground, triple)
        self.assertEqual(lets_likeness(ground, many, likes), many)
        allowed = {a, b, c, meet(a, b), meet(a, c), meet(b, c), meet(a, b, c)}
        if form == "two":
            allowed.add(closing(ground, a + meet(b, c)))
        self.assertLessEqual({lot for _, _, lot in likes}, allowed)
        for i, j, lot in likes:
            beside = j == i + 1 or (i, j) == (0, many - 1)
            self.assertIs(lot in rule, word if beside else not word)
        table = ring_table(ground, rule, triple)
        self.assertEqual(len(table), many)
        self.assertTrue(is_plain_table(ground, table))
        self.assertIs(ring_word(ground, rule, table), word)
        return form, many, word

    def test_all_triples_of_small_grounds(self):
        found = {}
        for ground in SMALL:
            rules = all_rules(ground)
            for rule in rules if len(rules) < 80 else rules[::3] + [PAIRS, opposite(ground, PAIRS)]:
                for triple in all_triples(ground, rule):
                    told = self.check(ground, rule, triple)
                    found[told] = found.get(told, 0) + 1
        self.assertEqual(len(found), 8, found)

    def test_found_triples(self):
        found = {}
        for ground, rule in some_cases(45, 12):
            triple = triple_of(ground, rule)
            if triple is not None:
                told = self.check(ground, rule, triple)
                found[told] = found.get(told, 0) + 1
        self.assertEqual(len(found), 8, found)

    def test_loads_of_rings(self):
        numbers = {(5, True): (2, 3, 2, 3), (5, False): (2, 3, 2, 3), (7, True): (2, 3, 3, 4), (7, False): (3, 4, 2, 3)}
        seen = set()
        for ground, rule in some_cases(450):
            triple = triple_of(ground, rule)
            if triple is not None:
                table = ring_table(ground, rule, triple)
                ones = (1,) * len(table)
                found = (
                    tried_load(ground, rule, table, ones), tried_rounds(ground, rule, table),
                    tried_worth(ground, rule, table, ones), tried_cover(ground, rule, table),
                )
                kind = len(table), ring_word(ground, rule, table)
                self.assertEqual(found, numbers[kind])
                seen.add(kind)
        self.assertEqual(len(seen), 4)

    def test_ring_of_likes(self):
        for rule, triple in ((MUX, ("two", (0,), (1, 2), (0, 1))), (SOME, ("three", (0,), (1,), (2,)))):
            self.assertEqual(likenesses(FREE, ring_table(FREE, rule, triple)), ring_likes(FREE, rule, triple))

    def test_triples_that_are_none(self):
        wrong = (
            None, 0, (), ["three", (0, 1), (0, 2), (1, 2)], ("three", (0,), (1,), (2,)), ("two", (0,), (1, 2), (0, 1)),
            ("three", (0, 2), (0, 1), (1, 2)), ("three", (0, 1), (0, 2)), ("three", (False, 1), (0, 2), (1, 2)),
        )
        for thing in wrong + ODD:
            for function in (ring_likes, ring_table):
                with self.assertRaises(NotUsable, msg=thing) as caught:
                    function(FREE, PAIRS, thing)
                self.assertEqual((caught.exception.word, caught.exception.at), ("triple", -1))
        for function in (ring_likes, ring_table):
            with self.assertRaises(NotUsable):
                function(ONE, (), ("three", (), (), ()))

    def test_example(self):
        self.assertEqual(len(ring_table(FREE, TURN, ("two", (1,), (0,), (1, 2)))), 5)
        self.assertEqual(len(ring_table(FREE, MUX, ("two", (0,), (1, 2), (0, 1)))), 7)
        self.assertEqual(len(ring_table(FREE, SOME, ("three", (0,), (1,), (2,)))), 5)


if __name__ == "__main__":
    unittest.main()
