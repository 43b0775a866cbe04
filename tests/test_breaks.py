import unittest

from alikeclash.breakchecker import lets_break
from alikeclash.breaks import break_of
from alikeclash.errors import InvalidPaper, NotUsable, Trusted
from alikeclash.rules import opposite
from alikeclash.trusting import may_trust, ways_of
from tests.samples import (
    BASED, CHAINED, DAYS, EMPTY, FREE, GROUNDS, KEPT, LARGE, LESSON, LINE, ODD, ONE, WHOLE, WIDE, all_rules, chance_of,
    clashing, is_plain_table, nearly_chained, random_ground, random_rule, random_table, slow_fewest, slow_heaviest,
)

WAYS = ("heaviest", "rooms", "fit", "rounds")
ROWS = {"heaviest": (3,), "fit": (4,), "rooms": (4,), "rounds": (5, 7)}


def slow_first_fit(rule, table, sequence):
    """How many rounds first fit makes, as [10] tells."""
    pairs, rounds = clashing(rule, table), []
    for row in sequence:
        for group in rounds:
            if not any((min(row, other), max(row, other)) in pairs for other in group):
                group.append(row)
                break
        else:
            rounds.append([row])
    return len(rounds)


def slow_kept(rule, table, weights):
    """What heaviest first keeps weighs so much, as [10] tells."""
    pairs, kept, left = clashing(rule, table), [], list(range(len(table)))
    while left:
        most = max(weights[row] for row in left)
        row = [row for row in left if weights[row] == most][0]
        left.remove(row)
        if not any((min(row, other), max(row, other)) in pairs for other in kept):
            kept.append(row)
    return sum(weights[row] for row in kept)


def goes_wrong(rule, told):
    """Whether the break goes wrong, by the definitions alone."""
    table = told[1]
    ones = (1,) * len(table)
    load = slow_heaviest(rule, table, ones, True)
    if told[0] == "rounds":
        worth = slow_heaviest(rule, table, ones, False)
        return load < slow_fewest(rule, table, False) or worth < slow_fewest(rule, table, True)
    if told[0] == "fit":
        return slow_first_fit(rule, table, told[2]) > load
    if told[0] == "rooms":
        formula = max(load, -(-len(table) // told[2]))
        return formula < slow_fewest(rule, table, False, told[2])
    return slow_kept(rule, table, told[2]) < slow_heaviest(rule, table, told[2], False)


class BreaksTest(unittest.TestCase):

    def check(self, ground, rule):
        for way in WAYS:
            if may_trust(ground, rule, way):
                with self.assertRaises(Trusted) as caught:
                    break_of(ground, rule, way)
                self.assertEqual(caught.exception.way, way)
                continue
            told = break_of(ground, rule, way)
            self.assertEqual((type(told), told[0], len(told)), (tuple, way, 2 if way == "rounds" else 3))
            self.assertTrue(is_plain_table(ground, told[1]))
            self.assertIn(len(told[1]), ROWS[way])
            self.assertEqual(lets_break(ground, rule, told), way)
            self.assertTrue(goes_wrong(rule, told))

    def test_all_rules(self):
        for ground in ((2, ()), KEPT, BASED, ONE, EMPTY, WHOLE, (3, (((0, 1), (2,)),))):
            for rule in all_rules(ground):
                self.check(ground, rule)
        for rule in all_rules(FREE)[::3]:
            self.check(FREE, rule)

    def test_some_rules(self):
        chance = chance_of(48)
        for ground in GROUNDS + (random_ground(chance, 5, 2), random_ground(chance, 4, 1), (5, ())):
            for turned in (0, 1, 2, 5):
                self.check(ground, nearly_chained(chance, ground, turned))
        for ground in (LARGE, WIDE, random_ground(chance, 7, 16)):
            self.check(ground, random_rule(chance, ground))

    def test_trusted_comes_behind_all_parameters(self):
        for rule, way, word in (((None,), "fit", "rule"), ((), "fits", "way"), ((), ["fit"], "way"), ((), True, "way")):
            with self.assertRaises(NotUsable) as caught:
                break_of(FREE, rule, way)
            self.assertEqual((caught.exception.word, caught.exception.at), (word, -1))

    def test_example(self):
        self.assertEqual(len(break_of(FREE, LESSON, "fit")[1]), 4)
        with self.assertRaises(Trusted) as caught:
            break_of(FREE, LESSON, "rooms")
        self.assertEqual(caught.exception.way, "rooms")


class BreakCheckerTest(unittest.TestCase):

    def fault(self, ground, rule, thing):
        try:
            self.assertEqual(lets_break(ground, rule, thing), thing[0])
        except InvalidPaper as wrong:
            return wrong.word, wrong.at
        return None

    def test_all_kinds(self):
        chance = chance_of(49)
        found = {(way, wrong): 0 for way in WAYS for wrong in (True, False)}
        for ground in (FREE, KEPT, CHAINED, (4, ()), LARGE) * 6:
            for tries, numbers in ((6, 2), (9, 3), (14, 3)):
                rule = nearly_chained(chance, ground, 2) if ground[0] < 5 else random_rule(chance, ground)
                table = random_table(chance, ground, tries, numbers)[:9]
                if "rounds" not in ways_of(ground, rule):
                    # A ring with some rows beside it goes wrong more often.
                    ring = break_of(ground, rule, "rounds")[1]
                    more = [row for row in table if is_plain_table(ground, ring + (row,))]
                    table = (ring + tuple(more[:1]))[:9]
                for told in self.told_of(chance, table):
                    wrong = goes_wrong(rule, told)
                    self.assertEqual(self.fault(ground, rule, told), None if wrong else ("right", -1))
                    if wrong:
                        self.assertFalse(may_trust(ground, rule, told[0]))
                        self.assertGreaterEqual(len(table), min(ROWS[told[0]]))
                    found[told[0], wrong] += 1
        self.assertGreater(min(found.values()), 3, found)

    def told_of(self, chance, table):
        """A thing of each way with the table."""
        sequence = tuple(chance.sample(range(len(table)), len(table)))
        weights = tuple(chance.choice((0, 1, 2, 3, 10 ** 12)) for _ in table)
        return (
            ("rounds", table), ("fit", table, sequence), ("rooms", table, chance.randint(1, 3)),
            ("heaviest", table, weights),
        )

    def test_one_side_is_enough_for_rounds(self):
        """A ring of five rows beside three rows that clash, or beside three that do not by the opposite rule."""
        ground = (6, ())
        rows = [[10 * row + column for column in range(6)] for row in range(8)]
        for row in range(5):
            rows[row][row] = rows[(row + 1) % 5][row] = 7
        for row in (5, 6, 7):
            rows[row][5] = 7
        table, ones = tuple(tuple(row) for row in rows), (1,) * 8
        rule = tuple((column,) for column in range(6))
        self.assertEqual(slow_heaviest(rule, table, ones, True), slow_fewest(rule, table, False))
        self.assertLess(slow_heaviest(rule, table, ones, False), slow_fewest(rule, table, True))
        self.assertIsNone(self.fault(ground, rule, ("rounds", table)))
        self.assertIsNone(self.fault(ground, opposite(ground, rule), ("rounds", table)))
        self.assertEqual(self.fault(ground, rule, ("rounds", table[1:])), ("right", -1))

    def test_shape(self):
        rows = LINE
        wrong = [
            ["rounds", rows], ("rounds", rows, 1), ("rounds",), ("fit", rows), ("rooms", rows), ("heaviest", rows),
            ("fit", rows, (0, 1, 2, 3), 1), ("Rounds", rows), (True, rows), (None, rows, 1), (("fit",), rows, (0, 1, 2, 3)),
            ("load", rows), ("load", rows, 1), "rounds", {}, (["rounds"], rows), ("room", rows, 2), ("",),
        ]
        for thing in wrong + list(ODD):
            self.assertEqual(self.fault(FREE, LESSON, thing), ("shape", -1), thing)

    def test_tables(self):
        ten = tuple((k, k, k) for k in range(10))
        for table in (None, 0, list(LINE), LINE + LINE[:1], ((0, 0),), ((0, 0, True),), ((0, 0, -1),), ten, LINE[0], "0"):
            self.assertEqual(self.fault(FREE, LESSON, ("rounds", table)), ("table", 1), table)
            for way in ("fit", "rooms", "heaviest"):
                self.assertEqual(self.fault(FREE, LESSON, (way, table, None)), ("table", 1), table)
        self.assertEqual(self.fault(KEPT, ((0,),), ("rounds", LINE)), ("table", 1))
        self.assertEqual(self.fault(FREE, (), ("rounds", ten[:9])), ("right", -1))

    def test_what_goes_with_a_table(self):
        for thing in (None, (0, 1, 2), [0, 1, 2, 3], (0, 1, 2, 2), (0, 1, 2, 4), (0, True, 2, 3), "0123", 4, ()):
            self.assertEqual(self.fault(FREE, LESSON, ("fit", LINE, thing)), ("with", 2), thing)
        for thing in (None, 0, -1, True, "2", (2,), [2], False):
            self.assertEqual(self.fault(FREE, LESSON, ("rooms", LINE, thing)), ("with", 2), thing)
        for thing in (None, (1, 1, 1), (1, 1, 1, 1, 1), [1, 1, 1, 1], (1, 1, 1, True), (1, 1, 1, -1), 1, "1111", ((1,),) * 4):
            self.assertEqual(self.fault(FREE, LESSON, ("heaviest", LINE, thing)), ("with", 2), thing)

    def test_nothing_goes_wrong(self):
        for thing in (
            ("rounds", LINE), ("rounds", ()), ("fit", LINE, (0, 1, 2, 3)), ("fit", (), ()), ("rooms", LINE, 2),
            ("rooms", LINE, 1), ("rooms", (), 3), ("heaviest", LINE, (3, 1, 1, 3)), ("heaviest", (), ()),
            ("heaviest", LINE, (0, 0, 0, 0)), ("rooms", LINE, 10 ** 12), ("heaviest", LINE, (1, 1, 1, 1)),
        ):
            self.assertEqual(self.fault(FREE, LESSON, thing), ("right", -1), thing)
        self.assertIsNone(self.fault(FREE, LESSON, ("heaviest", LINE, (2, 3, 2, 0))))
        # Of equal rows the one with the least number is taken first.
        self.assertIsNone(self.fault(FREE, LESSON, ("heaviest", (LINE[1], LINE[0], LINE[2]), (1, 1, 1))))
        self.assertEqual(self.fault(FREE, LESSON, ("heaviest", LINE[:3], (1, 1, 1))), ("right", -1))

    def test_trusted_rules_have_no_break(self):
        chance = chance_of(490)
        for rule in (LESSON, DAYS, ((0,), (0, 1), (0, 2)), ()):
            ways = ways_of(FREE, rule)
            for _ in range(12):
                table = random_table(chance, FREE, 7)
                things = {
                    "rounds": ("rounds", table), "rooms": ("rooms", table, chance.randint(1, 3)),
                    "fit": ("fit", table, tuple(chance.sample(range(len(table)), len(table)))),
                    "heaviest": ("heaviest", table, tuple(chance.randint(0, 5) for _ in table)),
                }
                for way in ways:
                    self.assertEqual(self.fault(FREE, rule, things[way]), ("right", -1))

    def test_example(self):
        self.assertEqual(lets_break(FREE, LESSON, ("fit", LINE, (0, 3, 1, 2))), "fit")
        self.assertEqual(self.fault(FREE, LESSON, ("rounds", LINE)), ("right", -1))


if __name__ == "__main__":
    unittest.main()
