import unittest
from itertools import combinations, permutations, product

from alikeclash.errors import InvalidPaper
from alikeclash.likechecker import lets_likeness
from alikeclash.tablemaking import part_of, renamed_table, rows_moved, table_of
from alikeclash.tables import first_unkept, is_table, likeness_of, likenesses
from alikeclash.groundmaking import renamed_ground
from tests.samples import (
    BASED, CHAINED, EMPTY, EMPTY_HELD, FREE, GROUNDS, KEPT, LARGE, LINE, ODD, ONE, WHOLE, chance_of, is_plain_table,
    likeness, meet, open_ones, random_table, small_tables, subsets,
)


def some_tables():
    chance = chance_of(18)
    return [(ground, random_table(chance, ground, tries)) for ground in GROUNDS + (LARGE,) for tries in (0, 1, 3, 30)]


class TablesTest(unittest.TestCase):

    def test_is_table(self):
        for ground in ((2, ()), (2, (((0,), (1,)),)), WHOLE, EMPTY, EMPTY_HELD, ONE):
            rows = list(product(range(2), repeat=ground[0]))
            for many in range(4):
                for thing in product(rows, repeat=many):
                    self.assertIs(is_table(ground, thing), is_plain_table(ground, thing), (ground, thing))
        self.assertIs(is_table(FREE, LINE), True)
        self.assertIs(is_table(KEPT, LINE), False)
        self.assertIs(is_table(FREE, LINE + LINE[:1]), False)
        self.assertIs(is_table(EMPTY, ((), ())), False)

    def test_wrong_tables(self):
        for thing in ODD:
            self.assertIs(is_table(FREE, thing), isinstance(thing, tuple) and thing in ((), ((0, 0, 0),)), thing)
        wrong = (
            [(0, 0, 0)], ([0, 0, 0],), ((0, 0, True),), ((0, 0, -1),), ((0, 0),), ((0, 0, 0, 0),), ((0, 0, "0"),),
            ((0, 0, None),), ((0, 0, 0), (False, 1, 1)), (0, 0, 0), ((0, 0, (0,)),),
        )
        for thing in wrong:
            self.assertIs(is_table(FREE, thing), False, thing)
        self.assertIs(is_table(FREE, ((0, 0, 10 ** 60), (0, 0, 10 ** 60 + 1))), True)

    def test_long_tables(self):
        rows = tuple((k, k // 3, 0) for k in range(1500))
        self.assertIs(is_table(FREE, rows), True)
        self.assertIs(is_table(KEPT, rows), True)
        self.assertIs(is_table(FREE, rows + rows[7:8]), False)
        self.assertIs(is_table(KEPT, rows + ((0, 0, 1),)), False)

    def test_likenesses(self):
        for ground, table in some_tables():
            triples = []
            for i, j in combinations(range(len(table)), 2):
                lot = likeness(table[i], table[j])
                triples.append((i, j, lot))
                self.assertEqual(likeness_of(ground, table, i, j), lot)
                self.assertEqual(likeness_of(ground, table, j, i), lot)
            self.assertEqual(likenesses(ground, table), tuple(triples))
        self.assertEqual(likenesses(WHOLE, ((0, 0),)), ())

    def test_first_unkept(self):
        chance = chance_of(180)
        for ground in (KEPT, BASED, WHOLE, CHAINED, EMPTY_HELD, (2, (((0,), (1,)), ((1,), (0,))))):
            choices = list(product(range(2), repeat=ground[0]))
            for _ in range(60):
                rows = tuple(chance.sample(choices, chance.randint(1, len(choices))))
                self.assertEqual(first_unkept(ground, rows), self.slow_unkept(ground, rows))
        self.assertIsNone(first_unkept(EMPTY_HELD, ((),)))
        self.assertIsNone(first_unkept(FREE, LINE))

    def slow_unkept(self, ground, rows):
        for here, there in ground[1]:
            for i, j in combinations(range(len(rows)), 2):
                lot = set(likeness(rows[i], rows[j]))
                if set(here) <= lot and not set(there) <= lot:
                    return (here, there), i, j
        return None

    def test_example(self):
        found = (likenesses(FREE, LINE[:3]), first_unkept(KEPT, LINE))
        self.assertEqual(found, (((0, 1, (0,)), (0, 2, ()), (1, 2, (1,))), (((1,), (2,)), 1, 2)))


class LikenessTest(unittest.TestCase):

    def refused(self, ground, many, thing):
        with self.assertRaises(InvalidPaper) as caught:
            lets_likeness(ground, many, thing)
        self.assertNotIsInstance(caught.exception.at, bool)
        return caught.exception.word, caught.exception.at

    def test_accepts_just_the_likenesses_of_tables(self):
        for ground in ((2, ()), (2, (((0,), (1,)),)), KEPT):
            for many in range(4):
                told = {likenesses(ground, table) for table in small_tables(ground, many)}
                pairs = list(combinations(range(many), 2))
                for lots in product(open_ones(ground), repeat=len(pairs)):
                    thing = tuple((i, j, lot) for (i, j), lot in zip(pairs, lots))
                    if thing in told:
                        self.assertEqual(lets_likeness(ground, many, thing), many)
                        table = table_of(ground, many, thing)
                        self.assertTrue(is_plain_table(ground, table))
                        self.assertEqual(likenesses(ground, table), thing)
                    else:
                        self.assertEqual(self.refused(ground, many, thing), ("meet", (0, 1, 2)))

    def test_meets_of_four_rows(self):
        pairs = list(combinations(range(4), 2))
        chance = chance_of(4)
        for _ in range(300):
            told = {pair: chance.choice(open_ones(FREE)[:5]) for pair in pairs}
            thing = tuple((i, j, told[i, j]) for i, j in pairs)
            wrong = []
            for i, j, k in combinations(range(4), 3):
                lots = told[i, j], told[i, k], told[j, k]
                if len({meet(one, other) for one, other in combinations(lots, 2)}) > 1:
                    wrong.append((i, j, k))
            if wrong:
                self.assertEqual(self.refused(FREE, 4, thing), ("meet", wrong[0]))
            else:
                self.assertEqual(lets_likeness(FREE, 4, thing), 4)
                self.assertEqual(likenesses(FREE, table_of(FREE, 4, thing)), thing)

    def test_tables_with_many_rows(self):
        for ground, table in some_tables():
            thing = likenesses(ground, table)
            self.assertEqual(lets_likeness(ground, len(table), thing), len(table))
            again = table_of(ground, len(table), thing)
            self.assertTrue(is_plain_table(ground, again))
            self.assertEqual(likenesses(ground, again), thing)

    def test_shape_and_length(self):
        fine = (0, 1, ())
        for thing in (None, 0, True, "", [], [fine], (0, 1, ()), (fine, [0, 1, ()]), (fine, (0, 1)), (fine, fine + (1,)),
                      ("abc",), (None,)):
            self.assertEqual(self.refused(FREE, 2, thing), ("shape", -1), thing)
        self.assertEqual(self.refused(FREE, 2, ()), ("length", -1))
        self.assertEqual(self.refused(FREE, 2, (fine, fine)), ("length", -1))
        self.assertEqual(self.refused(FREE, 1, (fine,)), ("length", -1))
        self.assertEqual(self.refused(FREE, 10 ** 12, (fine,)), ("length", -1))
        self.assertEqual((lets_likeness(FREE, 0, ()), lets_likeness(FREE, 1, ())), (0, 1))

    def test_pairs_and_closed(self):
        lots = [(0, 1, ()), (0, 2, ()), (1, 2, ())]
        for k in range(3):
            for pair in ((1, 0), (0, True), (False, 1), (0, 3), (0, None), ("0", 1), ((0, 1), 2), (2, 2)):
                things = [*lots[:k], pair + (None,), *[(None, None, None)] * (2 - k)]
                self.assertEqual(self.refused(FREE, 3, tuple(things)), ("pair", k))
            for lot in ((0, 1, 2), None, [0], (3,), (True,), (1, 0), 0, "0", (0, 0), [], ((),)):
                things = [*lots[:k], lots[k][:2] + (lot,), *[(None, None, None)] * (2 - k)]
                self.assertEqual(self.refused(FREE, 3, tuple(things)), ("closed", k))
        self.assertEqual(self.refused(KEPT, 2, ((0, 1, (1,)),)), ("closed", 0))
        self.assertEqual(self.refused(BASED, 2, ((0, 1, ()),)), ("closed", 0))
        self.assertEqual(self.refused(WHOLE, 2, ((0, 1, (0, 1)),)), ("closed", 0))
        self.assertEqual(self.refused(EMPTY, 2, ((0, 1, ()),)), ("closed", 0))
        # All pairs and lots come ahead of all meets.
        self.assertEqual(self.refused(FREE, 3, ((0, 1, (0,)), (0, 2, (0,)), (1, 2, (3,)))), ("closed", 2))


class TableMakingTest(unittest.TestCase):

    def test_table_of(self):
        self.assertEqual(table_of(FREE, 2, ((0, 1, (0,)),)), ((0, 0, 0), (0, 1, 1)))
        self.assertEqual(table_of(FREE, 0, ()), ())
        self.assertEqual(table_of(FREE, 1, ()), ((0, 0, 0),))
        self.assertEqual(table_of(EMPTY, 1, ()), ((),))
        self.assertEqual(table_of(FREE, 3, ((0, 1, (0,)), (0, 2, ()), (1, 2, (1,)))), ((0, 0, 0), (0, 1, 1), (2, 1, 2)))

    def test_least_rows(self):
        for ground, table in some_tables():
            made = table_of(ground, len(table), likenesses(ground, table))
            for row, entries in enumerate(made):
                for column, entry in enumerate(entries):
                    alike = [k for k in range(row + 1) if table[k][column] == table[row][column]]
                    self.assertEqual(entry, alike[0])

    def test_renamed_table(self):
        self.assertEqual(renamed_table(FREE, ((7, 8, 9),), (2, 0, 1)), ((8, 9, 7),))
        self.assertEqual(renamed_table(EMPTY, ((),), ()), ((),))
        for ground, table in some_tables():
            for sequence in list(permutations(range(ground[0])))[:30]:
                renamed = renamed_table(ground, table, sequence)
                self.assertTrue(is_plain_table(renamed_ground(ground, sequence), renamed))
                for row, new in zip(table, renamed):
                    self.assertEqual([new[sequence[i]] for i in range(ground[0])], list(row))

    def test_rows_moved(self):
        self.assertEqual(rows_moved(FREE, LINE, (3, 0, 1, 2)), (LINE[3], LINE[0], LINE[1], LINE[2]))
        self.assertEqual(rows_moved(WHOLE, (), ()), ())

    def test_part_of(self):
        for group in subsets(range(4)):
            self.assertEqual(part_of(FREE, LINE, group), tuple(LINE[row] for row in group))
        self.assertEqual(part_of(EMPTY, ((),), ()), ())


if __name__ == "__main__":
    unittest.main()
