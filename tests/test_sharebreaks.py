import unittest

from alikeclash.breakchecker import lets_break
from alikeclash.breakclasses import Ladder
from alikeclash.breaks import break_of
from alikeclash.errors import NotUsable, Trusted
from alikeclash.finding import has_chain
from alikeclash.kinds import is_quotient
from alikeclash.sharebreaks import share_break, too_many
from alikeclash.trusting import may_trust, ways_of
from tests.samples import (
    BASED, DAYS, EMPTY, FREE, GROUNDS, KEPT, LARGE, LESSON, LINE, MUX, ONE, PAIRS, WHOLE, WIDE, all_rules, chained_tables,
    chance_of, is_plain_table, nearly_chained, random_ground, random_rule, random_table, slow_heaviest,
)

WAYS = ("heaviest", "rooms", "fit", "rounds")


class ShareBreakTest(unittest.TestCase):

    def check(self, ground, rule):
        told = share_break(ground, rule)
        self.assertIs(told is None, has_chain(ground, rule))
        if told is None:
            return None
        self.assertEqual((type(told), len(told)), (tuple, 2))
        table, share = told
        self.assertTrue(is_plain_table(ground, table))
        self.assertIn(len(table), (5, 7))
        self.assertTrue(is_quotient(share))
        ones = (1,) * len(table)
        top, bottom = share
        self.assertLessEqual(top * slow_heaviest(rule, table, ones, True), bottom)
        self.assertGreater(top * len(table), bottom * slow_heaviest(rule, table, ones, False))
        return len(table), share

    def test_all_rules(self):
        seen = set()
        for ground in ((2, ()), KEPT, BASED, ONE, EMPTY, WHOLE, (3, (((0, 1), (2,)),))):
            for rule in all_rules(ground):
                seen.add(self.check(ground, rule))
        for rule in all_rules(FREE)[::2] + [PAIRS, MUX, DAYS]:
            seen.add(self.check(FREE, rule))
        self.assertGreater(len(seen), 3)

    def test_some_rules(self):
        chance = chance_of(50)
        for ground in GROUNDS + (random_ground(chance, 5, 2), (5, ())):
            for turned in (0, 1, 3):
                self.check(ground, nearly_chained(chance, ground, turned))
        for ground in (LARGE, WIDE, random_ground(chance, 7, 16)):
            self.check(ground, random_rule(chance, ground))

    def test_too_many(self):
        chance = chance_of(51)
        for ground in GROUNDS + (LARGE, (4, ())):
            for most in (0, 1, 4, 9, 20):
                rule, table = random_rule(chance, ground), random_table(chance, ground, most, 3)[:9]
                ones = (1,) * len(table)
                worth, load = [slow_heaviest(rule, table, ones, word) for word in (False, True)]
                self.assertEqual(too_many(ground, rule, table), (len(table), worth, load))
        for ground, rule in ((FREE, PAIRS), (FREE, MUX)):
            many, worth, load = too_many(ground, rule, share_break(ground, rule)[0])
            self.assertLess(worth, many)
            self.assertEqual(too_many(ground, rule, ()), (0, 0, 0))
            self.assertGreater(worth * load, 0)

    def test_no_more_rows_than_worth_times_load(self):
        for ground, rule, _, table in chained_tables(52):
            many, worth, load = too_many(ground, rule, table)
            self.assertLessEqual(many, worth * load)

    def test_example(self):
        self.assertEqual(too_many(FREE, LESSON, LINE), (4, 2, 2))
        self.assertIsNone(share_break(FREE, LESSON))


class LadderTest(unittest.TestCase):

    def check(self, ground, rule):
        ladder = Ladder(ground, rule)
        words = tuple(may_trust(ground, rule, way) for way in WAYS)
        self.assertEqual(ladder.says(), words)
        self.assertEqual(ladder.trusted(), tuple(way for way, word in zip(WAYS, words) if word))
        self.assertEqual(ladder.trusted(), ways_of(ground, rule))
        for way, word in zip(WAYS, words):
            if word:
                with self.assertRaises(Trusted) as caught:
                    ladder.break_for(way)
                self.assertEqual(caught.exception.way, way)
            else:
                self.assertEqual(ladder.break_for(way), break_of(ground, rule, way))
                self.assertEqual(lets_break(ground, rule, ladder.break_for(way)), way)
        # With "heaviest" goes each way, and with each way "rounds".
        self.assertTrue(all(words) or not words[0])
        self.assertTrue(words[3] or not any(words))
        return words

    def test_ladders(self):
        chance = chance_of(53)
        seen = {self.check(ground, rule) for ground in ((2, ()), KEPT, BASED, ONE, EMPTY, WHOLE) for rule in all_rules(ground)}
        for ground in (FREE, (4, ()), LARGE):
            for turned in (0, 0, 0, 1, 2):
                rule = random_rule(chance, ground) if ground == LARGE else nearly_chained(chance, ground, turned)
                seen.add(self.check(ground, rule))
        self.assertGreater(len(seen), 3)

    def test_refused(self):
        for things, word in (((None, ()), "ground"), (((3, []), None), "ground"), ((FREE, [(0,)]), "rule")):
            for call in (lambda: Ladder(*things), lambda: Ladder(rule=things[1], ground=things[0])):
                with self.assertRaises(NotUsable) as caught:
                    call()
                self.assertEqual((caught.exception.word, caught.exception.at), (word, -1))
        ladder = Ladder(FREE, PAIRS)
        for way in (None, "", "Fit", 0, ["fit"], True):
            with self.assertRaises(NotUsable) as caught:
                ladder.break_for(way)
            self.assertEqual((caught.exception.word, caught.exception.at), ("way", -1))
        self.assertEqual(ladder.says(), (False, False, False, False))

    def test_example(self):
        self.assertEqual(Ladder(FREE, LESSON).says(), (False, True, False, True))
        self.assertEqual(Ladder(FREE, LESSON).trusted(), ("rooms", "rounds"))


if __name__ == "__main__":
    unittest.main()
