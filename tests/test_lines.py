import unittest

from alikeclash.errors import InvalidRow, InvalidText
from alikeclash.tablelines import ground_text, read_ground, read_table, table_text
from tests.samples import (
    BASED, EMPTY, EMPTY_HELD, FREE, GROUNDS, KEPT, LARGE, LINE, ONE, WHOLE, chance_of, random_ground, random_table,
)


class LinesCase(unittest.TestCase):

    def wrong(self, reading, cases):
        for text, told in cases.items():
            with self.assertRaises(InvalidText, msg=repr(text)) as caught:
                reading(text)
            self.assertEqual((caught.exception.line, caught.exception.field), told, repr(text))


class GroundTextTest(LinesCase):

    def test_written(self):
        self.assertEqual(ground_text(FREE), "3")
        self.assertEqual(ground_text(KEPT), "3\n1 > 2")
        self.assertEqual(ground_text(BASED), "3\n> 1\n0 > 2")
        self.assertEqual(ground_text(EMPTY_HELD), "0\n>")
        self.assertEqual(ground_text(EMPTY), "0")
        self.assertEqual(ground_text((11, (((0, 10), ()),))), "11\n0 10 >")

    def test_read_back(self):
        chance = chance_of(220)
        grounds = [random_ground(chance, size, many) for size in range(9) for many in (0, 1, 5, 16)]
        for ground in GROUNDS + (LARGE,) + tuple(grounds):
            self.assertEqual(read_ground(ground_text(ground)), ground)

    def test_any_sequence(self):
        self.assertEqual(read_ground("3\n1 > 2\n0 >\n1 > 2\n> 0 1"), (3, (((), (0, 1)), ((0,), ()), ((1,), (2,)))))
        self.assertEqual(read_ground("0\n>\n>"), EMPTY_HELD)
        self.assertEqual(read_ground("12"), (12, ()))

    def test_wrong_lines(self):
        self.wrong(read_ground, {
            "": (0, 0), " ": (0, 0), "x": (0, 0), "03": (0, 0), "-1": (0, 0), "3 ": (0, 1), " 3": (0, 0), "3 3": (0, 1),
            "3\n": (1, 0), "3\n\n1 > 2": (1, 0), "3\n1": (1, 1), "3\n1 2": (1, 2), "3\n3 > 1": (1, 0), "3\n1 > 3": (1, 2),
            "3\n1 1 > 2": (1, 1), "3\n1 0 > 2": (1, 1), "3\n0 > 2 1": (1, 3), "3\n0 > 2 2": (1, 3), "3\n0 > >": (1, 2),
            "3\n0 > ": (1, 2), "3\n 0 >": (1, 0), "3\n0  > 1": (1, 1), "3\n0>1": (1, 0), "3\n00 >": (1, 0), "3\n> x": (1, 1),
            "3\n1 > 2\n2 x 3\n": (2, 1), "x\n9": (0, 0), "0\n0 >": (1, 0), "0\n> 0": (1, 1), "3\n0 1 2 2 >": (1, 3),
            "3\n> 1\n": (2, 0), "\u0663": (0, 0), "3\n> 0 ": (1, 2), "3\r": (0, 0),
        })


class TableTextTest(LinesCase):

    def test_written(self):
        self.assertEqual(table_text(FREE, LINE), "4\n0 0 0\n0 1 1\n1 1 2\n1 2 3")
        self.assertEqual(table_text(FREE, ()), "0")
        self.assertEqual(table_text(EMPTY, ()), "0")
        self.assertEqual(table_text(EMPTY, ((),)), "1\n")
        self.assertEqual(table_text(ONE, ((10 ** 12,),)), "1\n1000000000000")

    def test_read_back(self):
        chance = chance_of(221)
        for ground in GROUNDS + (LARGE,):
            for tries in (0, 1, 4, 40):
                table = random_table(chance, ground, tries)
                self.assertEqual(read_table(ground, table_text(ground, table)), table)

    def test_wrong_lines(self):
        self.wrong(lambda text: read_table(FREE, text), {
            "": (0, 0), "x": (0, 0), "1 1": (0, 1), "01\n0 0 0": (0, 0), "1": (1, 0), "2\n0 0 0": (2, 0), "0\n": (1, 0),
            "0\n0 0 0": (1, 0), "1\n0 0 0\n": (2, 0), "1\n0 0 0\n1 1 1": (2, 0), "1\n": (1, 0), "1\n0": (1, 1),
            "1\n0 0": (1, 2), "1\n0 0 0 0": (1, 3), "1\n0 0 0 ": (1, 3), "1\n0 0 ": (1, 2), "1\n0  0": (1, 1),
            "1\n 0 0 0": (1, 0), "1\n0 x 0": (1, 1), "1\n0 00 0": (1, 1), "1\n0 -1 0": (1, 1), "2\n0 0 0\n0 0 0 0": (2, 3),
            "2\n0 0 x": (1, 2), "3\n0 0 0\n0 0": (2, 2), "1000000000000\n0 0 0\n0 0 0": (3, 0),
            "1\n0 0 0\n0 0 x\n": (2, 0), "2\n0 0 0\n0 0 0\n": (3, 0), "2\n0 0 0\n\n": (2, 0), "1\n0 0 0 x": (1, 3),
        })
        self.wrong(lambda text: read_table(EMPTY, text), {
            "1": (1, 0), "0\n": (1, 0), "1\n0": (1, 0), "1\n ": (1, 0), "2\n": (2, 0), "1\n\n": (2, 0),
        })

    def test_wrong_rows(self):
        cases = (
            (FREE, "2\n0 0 0\n0 0 0", 1), (FREE, "4\n0 0 0\n0 0 1\n0 0 1\n0 0 0", 2), (EMPTY, "2\n\n", 1),
            (KEPT, "3\n0 0 0\n0 1 1\n1 1 2", 2), (KEPT, "4\n0 0 0\n0 1 1\n1 1 2\n0 0 0", 2), (WHOLE, "2\n0 0\n1 1", 1),
            (KEPT, "4\n0 0 0\n0 1 1\n0 0 0\n1 1 2", 2), (BASED, "2\n0 0 0\n1 1 1", 1), (BASED, "2\n0 0 0\n0 0 1", 1),
        )
        for ground, text, row in cases:
            with self.assertRaises(InvalidRow, msg=text) as caught:
                read_table(ground, text)
            self.assertEqual(caught.exception.row, row, text)
        # A line that is wrong comes ahead of all rows.
        with self.assertRaises(InvalidText):
            read_table(FREE, "3\n0 0 0\n0 0 0\n0 0")

    def test_example(self):
        self.assertEqual((ground_text(KEPT), table_text(FREE, LINE[:1])), ("3\n1 > 2", "1\n0 0 0"))


if __name__ == "__main__":
    unittest.main()
