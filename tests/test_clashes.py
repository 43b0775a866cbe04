import unittest
from itertools import combinations, permutations

from alikeclash.clashes import clash_pairs, clashing_with, is_peace, is_quarrel
from alikeclash.likechecker import lets_likeness
from alikeclash.ruleclasses import Rule, made
from alikeclash.rulemoving import held_rule
from alikeclash.rulemaking import told_rule
from alikeclash.rules import opposite, says
from alikeclash.tablemaking import rows_moved, table_of
from alikeclash.webforms import bend_in, claw_in, parts_of, path_in, ring_word
from tests.samples import (
    EMPTY, FREE, GROUNDS, KEPT, LARGE, LESSON, LINE, MUX, ONE, PAIRS, WHOLE, WIDE, all_lots, all_rules, chance_of,
    clashing, likeness, open_ones, random_rule, random_table, small_tables, subsets,
)


def some_cases(number, tries=(0, 1, 2, 4, 9), many=5):
    """Triples of grounds, rules and tables."""
    chance = chance_of(number)
    for ground in GROUNDS + (LARGE, WIDE):
        for most in tries:
            for _ in range(many):
                yield ground, random_rule(chance, ground), random_table(chance, ground, most)


def joined(rule, table, i, j):
    return (min(i, j), max(i, j)) in clashing(rule, table)


class ClashesTest(unittest.TestCase):

    def test_clashes(self):
        for ground, rule, table in some_cases(28):
            pairs = clashing(rule, table)
            self.assertEqual(clash_pairs(ground, rule, table), tuple(sorted(pairs)))
            for row in range(len(table)):
                beside = [other for other in range(len(table)) if joined(rule, table, row, other)]
                self.assertEqual(clashing_with(ground, rule, table, row), tuple(beside))

    def test_groups(self):
        for ground, rule, table in some_cases(280, (0, 1, 5)):
            pairs = clashing(rule, table)
            other = opposite(ground, rule)
            for group in subsets(range(len(table))):
                inner = set(combinations(group, 2))
                self.assertIs(is_quarrel(ground, rule, table, group), inner <= pairs)
                self.assertIs(is_peace(ground, rule, table, group), not inner & pairs)
                self.assertIs(is_peace(ground, other, table, group), inner <= pairs)

    def test_forty_rows(self):
        rows = tuple((k, k // 5, k // 2) for k in range(40))
        self.assertEqual(len(clash_pairs(FREE, ((1,), (1, 2)), rows)), 80)
        self.assertEqual(clashing_with(FREE, ((1,), (1, 2)), rows, 39), (35, 36, 37, 38))
        self.assertEqual(len(parts_of(FREE, ((1,), (1, 2)), rows)), 8)
        self.assertIsNone(path_in(FREE, ((1,), (1, 2)), rows))
        self.assertIsNone(claw_in(FREE, tuple(open_ones(FREE)), rows))
        self.assertEqual(len(set(path_in(FREE, ((1,), (1, 2), (2,)), rows))), 4)
        self.assertIs(is_quarrel(FREE, tuple(open_ones(FREE)), rows, tuple(range(40))), True)

    def test_edges(self):
        for ground in (EMPTY, WHOLE, ONE, FREE):
            for rule in ((), tuple(open_ones(ground))):
                for table in ((), ((0,) * ground[0],)):
                    self.assertEqual(clash_pairs(ground, rule, table), ())
                    for group in ((), (0,))[:len(table) + 1]:
                        self.assertIs(is_quarrel(ground, rule, table, group), True)
                        self.assertIs(is_peace(ground, rule, table, group), True)
                    if table:
                        self.assertEqual(clashing_with(ground, rule, table, 0), ())
                    self.assertEqual(parts_of(ground, rule, table), ((0,),) if table else ())
                    for form in (path_in, claw_in, bend_in, ring_word):
                        self.assertIsNone(form(ground, rule, table))

    def test_example(self):
        self.assertEqual(clash_pairs(FREE, LESSON, LINE), ((0, 1), (1, 2), (2, 3)))
        self.assertEqual(clashing_with(FREE, LESSON, LINE, 1), (0, 2))
        self.assertIs(is_peace(FREE, LESSON, LINE, (0, 3)), True)


class WebFormsTest(unittest.TestCase):

    def form(self, found, rule, table, wanted):
        """The found rows, or None, are right: wanted tells which of their pairs clash."""
        pairs = clashing(rule, table)

        def right(rows):
            told = {(min(rows[i], rows[j]), max(rows[i], rows[j])) for i, j in wanted}
            return set(combinations(sorted(rows), 2)) & pairs == told

        many = max(max(pair) for pair in wanted) + 1
        if found is None:
            self.assertFalse([rows for rows in permutations(range(len(table)), many) if right(rows)])
        else:
            self.assertIs(type(found), tuple)
            self.assertEqual(len(set(found)), many)
            self.assertEqual(len(found), many)
            self.assertTrue(right(found))

    def test_forms(self):
        told = {True: 0, False: 0}
        for ground, rule, table in some_cases(29, (3, 4, 5, 7), 9):
            path, claw, bend = [form(ground, rule, table) for form in (path_in, claw_in, bend_in)]
            self.form(path, rule, table, ((0, 1), (1, 2), (2, 3)))
            self.form(claw, rule, table, ((0, 1), (0, 2), (0, 3)))
            self.form(bend, rule, table, ((0, 1), (1, 2)))
            told[path is None] += 1
            told[claw is None] += 1
            if path is not None:
                a, b, c, d = path
                self.form((b, d, a, c), opposite(ground, rule), table, ((0, 1), (1, 2), (2, 3)))
        self.assertGreater(min(told.values()), 9)

    def test_forms_in_any_sequence(self):
        fork = ((0, 1, 2), (0, 3, 4), (5, 1, 6), (7, 8, 2))
        for sequence in permutations(range(4)):
            line = rows_moved(FREE, LINE, sequence)
            path = path_in(FREE, LESSON, line)
            self.form(path, LESSON, line, ((0, 1), (1, 2), (2, 3)))
            self.assertIn([line[row] for row in path], (list(LINE), list(LINE)[::-1]))
            rule = ((0,), (1,), (2,))
            forked = rows_moved(FREE, fork, sequence)
            claw = claw_in(FREE, rule, forked)
            self.form(claw, rule, forked, ((0, 1), (0, 2), (0, 3)))
            self.assertEqual(forked[claw[0]], fork[0])
            for row in range(1, 4):
                three = tuple(part for part in forked if part != fork[row])
                bend = bend_in(FREE, rule, three)
                self.form(bend, rule, three, ((0, 1), (1, 2)))
                self.assertEqual(three[bend[1]], fork[0])

    def test_parts(self):
        for ground, rule, table in some_cases(290, (1, 3, 6, 30)):
            parts = parts_of(ground, rule, table)
            self.assertEqual(parts, tuple(sorted(self.slow_parts(rule, table))))
            quarrels = [is_quarrel(ground, rule, table, part) for part in parts]
            self.assertIs(all(quarrels), bend_in(ground, rule, table) is None)
            if len(table) > 1 and path_in(ground, rule, table) is None:
                others = parts_of(ground, opposite(ground, rule), table)
                self.assertGreater(max(len(parts), len(others)), 1)

    def slow_parts(self, rule, table):
        pairs = clashing(rule, table)
        parts = {(row,) for row in range(len(table))}
        for i, j in pairs:
            one, = [part for part in parts if i in part]
            other, = [part for part in parts if j in part]
            parts = parts - {one, other} | {tuple(sorted(set(one + other)))}
        return parts

    def ring(self, many):
        """A ground without dependences, and a rule and a table that is a ring by it."""
        rows = [[row * 100 + column for column in range(many)] for row in range(many)]
        for row in range(many):
            rows[row][row] = rows[(row + 1) % many][row] = 7
        return (many, ()), tuple((column,) for column in range(many)), tuple(tuple(row) for row in rows)

    def test_rings(self):
        for many in (3, 4, 5, 6, 7):
            ground, rule, table = self.ring(many)
            word = True if many >= 5 else None
            self.assertIs(ring_word(ground, rule, table), word)
            self.assertIs(ring_word(ground, opposite(ground, rule), table), None if word is None else False)
            for sequence in list(permutations(range(many)))[1:200]:
                moved = rows_moved(ground, table, sequence)
                self.assertIs(ring_word(ground, rule, moved), self.slow_ring(rule, moved))
        ground, rule, table = self.ring(5)
        moved = rows_moved(ground, table, (0, 2, 4, 1, 3))
        self.assertIs(ring_word(ground, rule, moved), False)
        self.assertIs(ring_word(ground, rule, rows_moved(ground, table, (1, 0, 2, 3, 4))), None)
        self.assertIs(ring_word(ground, rule, table[:4]), None)

    def slow_ring(self, rule, table):
        many = len(table)
        if many < 5:
            return None
        beside = {tuple(sorted((i, (i + 1) % many))) for i in range(many)}
        for word in (True, False):
            said = {(i, j) for i, j in combinations(range(many), 2) if (likeness(table[i], table[j]) in rule) == word}
            if said == beside:
                return word
        return None

    def test_random_rings(self):
        for ground, rule, table in some_cases(291, (5, 6, 9), 20):
            self.assertIs(ring_word(ground, rule, table), self.slow_ring(rule, table))

    def test_example(self):
        self.assertEqual(parts_of(FREE, LESSON, LINE), ((0, 1, 2, 3),))
        self.assertEqual(sorted(path_in(FREE, LESSON, LINE)), [0, 1, 2, 3])
        self.assertEqual((claw_in(FREE, LESSON, LINE), ring_word(FREE, LESSON, LINE)), (None, None))
        five = ((0, 0, 0), (1, 0, 1), (1, 2, 2), (3, 2, 3), (3, 0, 1))
        self.assertIs(ring_word(FREE, ((0,), (0, 1), (0, 2), (1,)), five), True)


class RuleClassTest(unittest.TestCase):

    def test_made(self):
        for ground in (FREE, KEPT, WHOLE, EMPTY, ONE):
            for rule in all_rules(ground)[::3]:
                new = made(ground, rule)
                self.assertIsInstance(new, Rule)
                self.assertEqual(new.yes(), rule)
                self.assertEqual(new.opposite().yes(), opposite(ground, rule))
                self.assertIsInstance(new.opposite(), Rule)
                self.assertEqual(new.yes(), rule)
                for lot in open_ones(ground):
                    self.assertIs(new.says(lot), says(ground, rule, lot))
                for lot in all_lots(ground[0]):
                    held = new.held(lot)
                    self.assertEqual(held, made(*held_rule(ground, rule, lot)))
                    self.assertEqual(held.yes(), held_rule(ground, rule, lot)[1])

    def test_told(self):
        chance = chance_of(30)
        for ground in GROUNDS:
            for _ in range(9):
                lots = tuple(chance.choice(all_lots(ground[0])) for _ in range(chance.randint(0, 4)))
                self.assertEqual(Rule(ground, lots).yes(), told_rule(ground, lots))

    def test_clashes(self):
        for ground, rule, table in some_cases(300):
            self.assertEqual(made(ground, rule).clashes(table), clash_pairs(ground, rule, table))

    def test_equality(self):
        self.assertTrue(Rule(FREE, ((1,), (0,))) == made(FREE, LESSON))
        self.assertFalse(Rule(FREE, ((1,), (0,))) != made(FREE, LESSON))
        self.assertFalse(made(FREE, LESSON) == made(FREE, MUX))
        self.assertTrue(made(FREE, LESSON) != made(FREE, MUX))
        # The pairs count, not the closed lots.
        self.assertFalse(made(FREE, ()) == made((3, (((), ()),)), ()))
        self.assertFalse(made(FREE, ()) == made(KEPT, ()))
        self.assertFalse(made(FREE, LESSON).held(()) == made(FREE, LESSON))
        for thing in (LESSON, (FREE, LESSON), None, 0, "", True):
            self.assertFalse(made(FREE, LESSON) == thing)

    def test_example(self):
        self.assertTrue(Rule(FREE, ((1,), (0,))) == made(FREE, LESSON))
        self.assertEqual(Rule(KEPT, ((1,),)).yes(), ((1, 2),))


class SmallTablesTest(unittest.TestCase):

    def test_all_small_tables(self):
        ground = (2, ())
        for rule in all_rules(ground):
            for table in small_tables(ground, 3, 2):
                self.assertEqual(clash_pairs(ground, rule, table), tuple(sorted(clashing(rule, table))))

    def test_pairs_by_two_of_three(self):
        table = table_of(FREE, 3, ((0, 1, (0, 1)), (0, 2, (0,)), (1, 2, (0, 2))))
        lets_likeness(FREE, 3, ((0, 1, (0, 1)), (0, 2, (0,)), (1, 2, (0, 2))))
        self.assertEqual(clash_pairs(FREE, PAIRS, table), ((0, 1), (1, 2)))
        self.assertEqual(sorted(bend_in(FREE, PAIRS, table)[::2]), [0, 2])


if __name__ == "__main__":
    unittest.main()
