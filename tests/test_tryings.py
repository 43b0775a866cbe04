import unittest

from alikeclash.rules import opposite
from alikeclash.smalltables import bend_table, claw_table, path_table
from alikeclash.tryings import tried_cover, tried_load, tried_room_rounds, tried_rounds, tried_worth
from alikeclash.trusting import may_trust
from alikeclash.webforms import bend_in, claw_in, path_in
from tests.samples import (
    BASED, EMPTY, EMPTY_HELD, FREE, GROUNDS, KEPT, LARGE, LESSON, LINE, MUX, ONE, PAIRS, WHOLE, WIDE, all_rules,
    chance_of, clashing, is_plain_table, nearly_chained, open_ones, random_ground, random_rule, random_table,
    slow_fewest, slow_heaviest,
)

FORMS = (
    (bend_table, "heaviest", 3, {(0, 1), (1, 2)}),
    (path_table, "fit", 4, {(0, 1), (1, 2), (2, 3)}),
    (claw_table, "rooms", 4, {(0, 3), (1, 3), (2, 3)}),
)
SMALL = ((2, ()), (2, (((0,), (1,)),)), FREE, KEPT, BASED, ONE, EMPTY, EMPTY_HELD, WHOLE, (3, (((0, 1), (2,)),)))


def some_tables(number, sizes=(0, 1, 3, 5, 7, 9)):
    """Triples of grounds, rules and tables of at most nine rows."""
    chance = chance_of(number)
    for ground in GROUNDS + (LARGE, WIDE):
        for most in sizes:
            rule = random_rule(chance, ground) if ground[0] > 4 else nearly_chained(chance, ground, most % 3)
            yield ground, rule, random_table(chance, ground, most)
            yield ground, rule, random_table(chance, ground, 2 * most, 2)[:9]


class SmallTablesTest(unittest.TestCase):

    def check(self, ground, rule):
        lost = set()
        for form, way, rows, pairs in FORMS:
            table = form(ground, rule)
            self.assertIs(table is None, may_trust(ground, rule, way), (ground, rule, way))
            if table is not None:
                lost.add(way)
                self.assertIs(type(table), tuple)
                self.assertEqual(len(table), rows)
                self.assertTrue(is_plain_table(ground, table))
                self.assertEqual(clashing(rule, table), pairs)
        return lost

    def test_all_rules(self):
        for ground in SMALL:
            lost = [self.check(ground, rule) for rule in all_rules(ground)]
            if ground == FREE:
                self.assertGreater(len({tuple(sorted(ways)) for ways in lost}), 3)

    def test_many_columns(self):
        chance = chance_of(46)
        for ground in (LARGE, WIDE, random_ground(chance, 6, 5), random_ground(chance, 8, 16)):
            for _ in range(3):
                self.check(ground, random_rule(chance, ground))
            self.check(ground, ())
            self.check(ground, tuple(open_ones(ground)))
        for ground in (random_ground(chance, 5, 0), random_ground(chance, 5, 3), (4, ())):
            for turned in range(9):
                self.check(ground, nearly_chained(chance, ground, turned % 3))

    def test_many_least_yes_lots(self):
        for ground in ((4, ()), (5, ()), (4, (((0, 1), (2,)),))):
            for many in range(1, ground[0]):
                rule = tuple(lot for lot in open_ones(ground) if len(lot) >= many)
                self.check(ground, rule)
                self.check(ground, tuple(lot for lot in open_ones(ground) if lot not in rule))

    def test_forms_found(self):
        self.assertEqual(bend_in(FREE, LESSON, bend_table(FREE, LESSON))[1], 1)
        self.assertIn(path_in(FREE, PAIRS, path_table(FREE, PAIRS)), ((0, 1, 2, 3), (3, 2, 1, 0)))
        self.assertEqual(claw_in(FREE, MUX, claw_table(FREE, MUX))[0], 3)

    def test_example(self):
        self.assertIsNone(claw_table(FREE, LESSON))
        self.assertIsNotNone(path_table(FREE, LESSON))


class TryingsTest(unittest.TestCase):

    def test_loads(self):
        chance = chance_of(47)
        for ground, rule, table in some_tables(470):
            for limit in (0, 1, 9, 10 ** 12):
                weights = tuple(chance.randint(0, limit) for _ in table)
                load = slow_heaviest(rule, table, weights, True)
                worth = slow_heaviest(rule, table, weights, False)
                self.assertEqual(tried_load(ground, rule, table, weights), load)
                self.assertEqual(tried_worth(ground, rule, table, weights), worth)
                self.assertEqual(tried_worth(ground, opposite(ground, rule), table, weights), load)

    def test_rounds(self):
        for ground, rule, table in some_tables(471):
            rounds = slow_fewest(rule, table, False)
            cover = slow_fewest(rule, table, True)
            self.assertEqual(tried_rounds(ground, rule, table), rounds)
            self.assertEqual(tried_cover(ground, rule, table), cover)
            self.assertEqual(tried_rounds(ground, opposite(ground, rule), table), cover)

    def test_rooms(self):
        for ground, rule, table in some_tables(472):
            for rooms in (1, 2, 3, 4, 9, 10 ** 12):
                fewest = slow_fewest(rule, table, False, rooms)
                self.assertEqual(tried_room_rounds(ground, rule, table, rooms), fewest)
            self.assertEqual(tried_room_rounds(ground, rule, table, 1), len(table))
            most = max(1, len(table))
            self.assertEqual(tried_room_rounds(ground, rule, table, most), tried_rounds(ground, rule, table))

    def test_nine_rows(self):
        rows = tuple((k, k // 3, k % 3) for k in range(9))
        ones = (1,) * 9
        for rule, numbers in (
            ((), (1, 9, 1, 9)), (tuple(open_ones(FREE)), (9, 1, 9, 1)), (((1,), (2,)), (3, 3, 3, 3)),
            (((1,),), (3, 3, 3, 3)),
        ):
            found = (
                tried_load(FREE, rule, rows, ones), tried_worth(FREE, rule, rows, ones),
                tried_rounds(FREE, rule, rows), tried_cover(FREE, rule, rows),
            )
            self.assertEqual(found, numbers)
        for rooms, most in ((1, 9), (2, 5), (3, 3), (4, 3)):
            self.assertEqual(tried_room_rounds(FREE, ((1,), (2,)), rows, rooms), most)

    def test_edges(self):
        for ground in (EMPTY, FREE, WHOLE):
            found = (
                tried_load(ground, (), (), ()), tried_worth(ground, (), (), ()), tried_rounds(ground, (), ()),
                tried_cover(ground, (), ()), tried_room_rounds(ground, (), (), 3),
            )
            self.assertEqual(found, (0, 0, 0, 0, 0))
            row = ((7,) * ground[0],)
            self.assertEqual(tried_load(ground, (), row, (5,)), 5)
            self.assertEqual(tried_worth(ground, (), row, (0,)), 0)
            found = tried_rounds(ground, (), row), tried_cover(ground, (), row), tried_room_rounds(ground, (), row, 1)
            self.assertEqual(found, (1, 1, 1))

    def test_two_rows_never_go_wrong(self):
        for ground in (FREE, KEPT):
            for lot in open_ones(ground):
                table = ((0,) * 3, tuple(0 if column in lot else 1 for column in range(3)))
                for rule in ((), (lot,)):
                    self.assertEqual(tried_load(ground, rule, table, (1, 1)), tried_rounds(ground, rule, table))
                    self.assertEqual(tried_worth(ground, rule, table, (1, 1)), tried_cover(ground, rule, table))

    def test_four_rows_have_no_break_for_rounds(self):
        chance = chance_of(473)
        for ground in (FREE, KEPT, (4, ())):
            for _ in range(40):
                rule, table = random_rule(chance, ground), random_table(chance, ground, 4)
                ones = (1,) * len(table)
                self.assertEqual(tried_load(ground, rule, table, ones), tried_rounds(ground, rule, table))
                self.assertEqual(tried_worth(ground, rule, table, ones), tried_cover(ground, rule, table))

    def test_example(self):
        self.assertEqual(tried_worth(FREE, LESSON, LINE, (3, 1, 1, 3)), 6)
        self.assertEqual(tried_cover(FREE, LESSON, LINE), 2)
        self.assertEqual(tried_room_rounds(FREE, LESSON, LINE, 1), 4)
        self.assertEqual(tried_load(FREE, LESSON, LINE, (3, 1, 1, 3)), 4)


if __name__ == "__main__":
    unittest.main()
