import unittest
from itertools import permutations

from alikeclash.clashes import clash_pairs
from alikeclash.groundmaking import doubled_ground, held_ground, renamed_ground
from alikeclash.partings import parting_lots, parting_table
from alikeclash.rulemaking import always_rule, never_rule, sentence_of, sentence_rule, told_rule
from alikeclash.rulemoving import doubled_rule, held_rule, renamed_rule, rule_under
from alikeclash.rules import both_say, either_says, is_rule, opposite, says, unlike_say
from alikeclash.sentencelines import read_sentence, sentence_line
from alikeclash.sentences import alike_sentence, holds_for, is_sentence
from alikeclash.tablemaking import renamed_table
from alikeclash.turning import turning_lots, yes_lots
from tests.samples import (
    BASED, CHAINED, EMPTY, EMPTY_HELD, FREE, GROUNDS, KEPT, LARGE, LESSON, MUX, ODD, ONE, PAIRS, WHOLE, WIDE, all_lots,
    all_rules, chance_of, clashing, closing, holds, is_plain_table, least, open_ones, random_ground, random_rule,
    random_table,
)

SMALL = (EMPTY, EMPTY_HELD, ONE, WHOLE, (2, ()), (2, (((0,), (1,)),)), FREE, KEPT, BASED)


def some_rules(number, many=12):
    """Pairs of grounds and rules, those of sizes up to eight among them."""
    chance = chance_of(number)
    grounds = list(GROUNDS) + [random_ground(chance, size, deps) for size in (2, 4, 5) for deps in (0, 2, 5)]
    grounds += [LARGE, WIDE, random_ground(chance, 8, 16)]
    for ground in grounds:
        for _ in range(many):
            yield ground, random_rule(chance, ground)


class RulesTest(unittest.TestCase):

    def test_is_rule(self):
        for ground in SMALL:
            for rule in all_rules(ground):
                self.assertIs(is_rule(ground, rule), True)
        for thing in ODD:
            self.assertIs(is_rule(FREE, thing), thing in ((), ((),)), thing)
        wrong = (
            ((0, 1, 2),), ((0,), (0,)), ((1,), (0,)), ((True,),), ([0],), [(0,)], ((3,),), ((1, 0),), (0,), None, "0",
            ((0,), (0, 1, 2)), ((0,), None), (("0",),), ((0, 0),), (((0,),),), ((), 1), ((-1,),),
        )
        for thing in wrong:
            self.assertIs(is_rule(FREE, thing), False, thing)
        self.assertIs(is_rule(KEPT, ((1,),)), False)
        self.assertIs(is_rule(KEPT, ((1, 2),)), True)
        self.assertIs(is_rule(BASED, ((),)), False)
        for ground in (EMPTY, EMPTY_HELD, WHOLE):
            self.assertIs(is_rule(ground, ()), True)
            for lot in all_lots(ground[0]):
                self.assertIs(is_rule(ground, (lot,)), False)
        self.assertIs(is_rule(WIDE, tuple(open_ones(WIDE))), True)

    def test_says_and_opposite(self):
        for ground, rule in some_rules(23):
            other = opposite(ground, rule)
            self.assertIs(is_rule(ground, other), True)
            self.assertEqual(sorted(rule + other), open_ones(ground))
            self.assertEqual(opposite(ground, other), rule)
            for lot in open_ones(ground)[:40]:
                self.assertIs(says(ground, rule, lot), lot in rule)
        for ground in (EMPTY, EMPTY_HELD, WHOLE):
            self.assertEqual(opposite(ground, ()), ())

    def test_two_rules(self):
        chance = chance_of(230)
        for ground, rule in some_rules(231):
            other = random_rule(chance, ground)
            one, two = set(rule), set(other)
            self.assertEqual(both_say(ground, rule, other), tuple(sorted(one & two)))
            self.assertEqual(either_says(ground, rule, other), tuple(sorted(one | two)))
            self.assertEqual(unlike_say(ground, rule, other), tuple(sorted(one ^ two)))
            apart = opposite(ground, either_says(ground, rule, other))
            self.assertEqual(apart, both_say(ground, opposite(ground, rule), opposite(ground, other)))

    def test_example(self):
        self.assertIs(says(FREE, LESSON, (1, 2)), True)
        self.assertEqual(opposite(KEPT, ((0,),)), ((), (0, 2), (1, 2), (2,)))


class RuleMakingTest(unittest.TestCase):

    def test_sentence_rule(self):
        for sentence in (("same", 1), ("not", ("same", 2)), ("or", ("same", 0), ("and", ("same", 1), ("same", 2)))):
            for ground in (FREE, KEPT, BASED):
                told = [lot for lot in open_ones(ground) if holds_for(3, sentence, lot)]
                self.assertEqual(sentence_rule(ground, sentence), tuple(told))
        self.assertEqual(sentence_rule(FREE, ("always",)), tuple(open_ones(FREE)))
        self.assertEqual(sentence_rule(WHOLE, ("always",)), ())
        self.assertEqual(sentence_rule(EMPTY, ("not", ("never",))), ())

    def test_told_rule(self):
        chance = chance_of(24)
        for ground in GROUNDS + (LARGE, WIDE):
            lots = all_lots(ground[0])
            for many in (0, 1, 2, 3, 9):
                told = tuple(chance.choice(lots) for _ in range(many))
                yes = [lot for lot in open_ones(ground) if any(holds(lot, inner) for inner in told)]
                self.assertEqual(told_rule(ground, told), tuple(yes))
            self.assertEqual(told_rule(ground, tuple(lots)), tuple(open_ones(ground)))
            self.assertEqual(told_rule(ground, (tuple(range(ground[0])),)), ())
            self.assertEqual(told_rule(ground, ((),)), tuple(open_ones(ground)))
        self.assertEqual(told_rule(KEPT, ((1,), (1,), (0, 1, 2))), ((1, 2),))

    def test_never_and_always(self):
        for ground in GROUNDS + (LARGE, WIDE):
            self.assertEqual(never_rule(ground), ())
            self.assertEqual(always_rule(ground), tuple(open_ones(ground)))

    def test_sentence_of(self):
        for ground in SMALL:
            for rule in all_rules(ground):
                self.tells(ground, rule)
        for ground, rule in some_rules(240):
            self.tells(ground, rule)
        for size in range(9):
            ground = (size, ())
            odd = tuple(lot for lot in open_ones(ground) if len(lot) % 2)
            for rule in ((), tuple(open_ones(ground)), odd):
                self.tells(ground, rule)

    def tells(self, ground, rule):
        sentence = sentence_of(ground, rule)
        self.assertIs(is_sentence(ground[0], sentence), True)
        self.assertLessEqual(self.deep(sentence), 30)
        self.assertEqual(sentence_rule(ground, sentence), rule)
        self.assertEqual(read_sentence(ground[0], sentence_line(ground[0], sentence)), sentence)

    def deep(self, thing):
        return 1 + max([self.deep(part) for part in thing], default=0) if isinstance(thing, tuple) else 0

    def test_example(self):
        self.assertEqual(sentence_rule(FREE, ("or", ("same", 0), ("same", 1))), LESSON)
        self.assertEqual(told_rule(KEPT, ((1,), (0, 2), (1,))), ((0, 2), (1, 2)))


class RuleMovingTest(unittest.TestCase):

    def test_held_rule(self):
        chance = chance_of(25)
        for ground, rule in some_rules(250, 3):
            lots = all_lots(ground[0])
            for lot in [(), closing(ground, ())] + chance.sample(lots, min(5, len(lots))):
                held, moved = held_rule(ground, rule, lot)
                self.assertEqual(held, held_ground(ground, lot))
                inner = closing(ground, lot)
                self.assertEqual(moved, tuple(yes for yes in rule if holds(yes, inner)))
                self.assertIs(is_rule(held, moved), True)
                table = random_table(chance, held, 6)
                self.assertTrue(is_plain_table(ground, table))
                self.assertEqual(clash_pairs(held, moved, table), clash_pairs(ground, rule, table))
            self.assertEqual(held_rule(ground, rule, ())[1], rule)
            self.assertEqual(held_rule(ground, rule, closing(ground, ()))[1], rule)

    def test_rule_under(self):
        chance = chance_of(251)
        for ground, rule in some_rules(252, 3):
            more = random_ground(chance, ground[0], 3)
            other = (ground[0], tuple(sorted(set(ground[1]) | set(more[1]))))
            moved = rule_under(ground, rule, other)
            self.assertEqual(moved, tuple(lot for lot in rule if lot in open_ones(other)))
            self.assertIs(is_rule(other, moved), True)
            self.assertEqual(rule_under(ground, rule, ground), rule)
            table = random_table(chance, other, 6)
            self.assertEqual(clash_pairs(other, moved, table), clash_pairs(ground, rule, table))

    def test_renamed_rule(self):
        chance = chance_of(253)
        for ground, rule in some_rules(254, 3):
            for sequence in list(permutations(range(ground[0])))[:9]:
                renamed, moved = renamed_ground(ground, sequence), renamed_rule(ground, rule, sequence)
                self.assertEqual(moved, tuple(sorted(tuple(sorted(sequence[i] for i in lot)) for lot in rule)))
                self.assertIs(is_rule(renamed, moved), True)
                table = random_table(chance, ground, 6)
                again = renamed_table(ground, table, sequence)
                self.assertEqual(clash_pairs(renamed, moved, again), clash_pairs(ground, rule, table))

    def test_doubled_rule(self):
        chance = chance_of(255)
        for ground, rule in some_rules(256, 3):
            if ground[0] == 8:
                continue
            for column in range(ground[0]):
                doubled, moved = doubled_ground(ground, column), doubled_rule(ground, rule, column)
                for lot in open_ones(doubled):
                    self.assertEqual(lot in moved, tuple(part for part in lot if part != ground[0]) in rule)
                self.assertIs(is_rule(doubled, moved), True)
                table = random_table(chance, ground, 6)
                again = tuple(row + (row[column],) for row in table)
                self.assertEqual(clash_pairs(doubled, moved, again), clash_pairs(ground, rule, table))

    def test_example(self):
        self.assertEqual(held_rule(FREE, LESSON, (0,)), ((3, (((), (0,)),)), ((0,), (0, 1), (0, 2))))
        self.assertEqual(rule_under(FREE, LESSON, KEPT), ((0,), (0, 2), (1, 2)))
        self.assertEqual(renamed_rule(FREE, LESSON, (2, 0, 1)), ((0,), (0, 1), (0, 2), (1, 2), (2,)))
        self.assertEqual(doubled_rule((2, ()), ((0,),), 0), ((0, 2),))


class TurningTest(unittest.TestCase):

    def test_turning_lots(self):
        chance = chance_of(26)
        for ground, rule in some_rules(260, 4):
            lots = open_ones(ground)
            for lot in chance.sample(lots, min(6, len(lots))):
                others = [other for other in lots if holds(other, lot) and (other in rule) != (lot in rule)]
                turned = turning_lots(ground, rule, lot)
                self.assertEqual(turned, tuple(sorted(least(others))))
                self.assertEqual(turned, turning_lots(ground, opposite(ground, rule), lot))

    def test_yes_lots(self):
        for ground, rule in some_rules(261):
            told = yes_lots(ground, rule)
            self.assertEqual(told, tuple(sorted(least(rule))))
            upwards = all(lot in rule for lot in open_ones(ground) if any(holds(lot, yes) for yes in rule))
            self.assertIs(told_rule(ground, told) == rule, upwards)
            base = closing(ground, ())
            if base in rule:
                self.assertEqual(told, (base,))
            elif len(base) < ground[0]:
                self.assertEqual(told, turning_lots(ground, rule, base))
        for ground in (EMPTY, WHOLE, FREE):
            self.assertEqual(yes_lots(ground, ()), ())

    def test_example(self):
        self.assertEqual(turning_lots(FREE, MUX, (0,)), ((0, 1),))
        self.assertEqual(yes_lots(FREE, MUX), ((0,), (1, 2)))
        self.assertEqual(yes_lots(FREE, PAIRS), PAIRS)


class PartingsTest(unittest.TestCase):

    def test_partings(self):
        chance = chance_of(27)
        for ground, rule in some_rules(270):
            for other in (random_rule(chance, ground), rule):
                lots = parting_lots(ground, rule, other)
                self.assertEqual(lots, tuple(lot for lot in open_ones(ground) if (lot in rule) != (lot in other)))
                self.assertEqual(lots, unlike_say(ground, rule, other))
                table = parting_table(ground, rule, other)
                if rule == other:
                    self.assertEqual((lots, table), ((), None))
                else:
                    self.assertEqual(len(table), 2)
                    self.assertTrue(is_plain_table(ground, table))
                    self.assertEqual(len(clashing(rule, table)) + len(clashing(other, table)), 1)

    def test_example(self):
        self.assertEqual(parting_lots(FREE, LESSON, MUX), ((0, 1), (1,)))
        rows = parting_table(FREE, LESSON, MUX)
        self.assertEqual((len(clash_pairs(FREE, LESSON, rows)), len(clash_pairs(FREE, MUX, rows))), (1, 0))


class SentencesOfLotsTest(unittest.TestCase):

    def test_alike_sentence_tells_the_rule(self):
        for ground in (FREE, KEPT, CHAINED):
            for lot in all_lots(ground[0]):
                self.assertEqual(sentence_rule(ground, alike_sentence(ground[0], lot)), told_rule(ground, (lot,)))


if __name__ == "__main__":
    unittest.main()
