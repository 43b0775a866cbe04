import unittest
from fractions import Fraction

from alikeclash.clashes import is_quarrel
from alikeclash.equalmore import equal_more
from alikeclash.errors import Blocked, NotUsable, Refused
from alikeclash.hourchecker import lets_hours
from alikeclash.hourkinds import hours_length, is_hours, share_in, standing_at
from alikeclash.hourplans import heaviest_sum, hours_for
from alikeclash.lotteries import drawn_by, lottery_of, sureness_of
from alikeclash.roomhours import room_hours
from alikeclash.rulemaking import told_rule
from tests.samples import (
    EMPTY, FREE, LESSON, LINE, MUX, ONE, PAIRS, WHOLE, chained_tables, chance_of, forty_rows, is_triple, quotient,
    slow_groups, slow_sum, some_shares, values,
)
from tests.test_hours import DAY, NOUGHT, SOME, some_hours, stretches
from tests.test_rooms import forty_told, told_tables


def raised(shares, more):
    return tuple(quotient(value + more) for value in values(shares))


class EqualMoreTest(unittest.TestCase):

    def check(self, ground, rule, table, shares, time, right):
        found = equal_more(ground, rule, table, shares, time)
        self.assertEqual((type(found), len(found)), (tuple, 2))
        more, group = found
        self.assertEqual(more, quotient(right))
        self.assertIs(is_quarrel(ground, rule, table, group), True)
        self.assertNotEqual(group, ())
        shares_then = raised(shares, right)
        self.assertEqual(sum(values([shares_then[row] for row in group])), Fraction(*time))
        hours_for(ground, rule, table, shares_then, time)
        with self.assertRaises(Blocked):
            hours_for(ground, rule, table, raised(shares, right + Fraction(1, 10 ** 9)), time)

    def test_small_tables(self):
        chance = chance_of(77)
        for ground, rule, _, table in chained_tables(77, 2, 8):
            if table == ():
                continue
            groups = [group for group in slow_groups(rule, table, True) if group]
            for shares in some_shares(chance, table):
                most = slow_sum(rule, table, shares)
                for time in (most, most + Fraction(1, 60), most * 3 + 1):
                    told = values(shares)
                    right = min((time - sum(told[row] for row in group)) / len(group) for group in groups)
                    self.check(ground, rule, table, shares, quotient(time), right)

    def test_forty_rows(self):
        chance = chance_of(770)
        for ground, rule, _, table in forty_rows(770, 1):
            for shares in some_shares(chance, table)[1:4]:
                time = quotient(Fraction(*heaviest_sum(ground, rule, table, shares)) + chance.choice((0, 1, 1000)))
                more, group = equal_more(ground, rule, table, shares, time)
                self.check(ground, rule, table, shares, time, Fraction(*more))

    def test_blocked_and_refused(self):
        for time in (NOUGHT, (1, 2), (49, 59)):
            with self.assertRaises(Blocked) as caught:
                equal_more(FREE, LESSON, LINE, SOME, time)
            self.assertEqual(lets_hours(FREE, LESSON, LINE, SOME, time, ("blocked", caught.exception.group)), -1)
        for rule in (PAIRS, MUX):
            with self.assertRaises(Refused) as caught:
                equal_more(FREE, rule, LINE, SOME, NOUGHT)
            self.assertTrue(is_triple(FREE, rule, caught.exception.triple))
            for told, word in (
                ((LINE, SOME, (-1, 2)), "time"), ((LINE, SOME[:3], (-1, 2)), "shares"), (((), (), (1, 1)), "table"),
                (((), SOME, (1, 1)), "table"), (((), None, None), "table"),
            ):
                with self.assertRaises(NotUsable) as caught:
                    equal_more(FREE, rule, *told)
                self.assertEqual((caught.exception.word, caught.exception.at), (word, -1))

    def test_edges(self):
        self.assertEqual(equal_more(WHOLE, (), ((1, 2),), (NOUGHT,), (5, 3)), ((5, 3), (0,)))
        self.assertEqual(equal_more(EMPTY, (), ((),), ((1, 3),), (1, 3)), (NOUGHT, (0,)))
        self.assertEqual(equal_more(FREE, LESSON, LINE, (NOUGHT,) * 4, NOUGHT)[0], NOUGHT)
        forty = tuple((k,) for k in range(40))
        self.assertEqual(equal_more(ONE, ((),), forty, (NOUGHT,) * 40, (1, 1)), ((1, 40), tuple(range(40))))
        self.assertEqual(equal_more(ONE, (), forty, (NOUGHT,) * 39 + ((1, 2),), (1, 1)), ((1, 2), (39,)))

    def test_example(self):
        self.assertEqual(equal_more(FREE, LESSON, LINE, SOME, (1, 1)), ((1, 12), (0, 1)))


class LotteryTest(unittest.TestCase):

    def test_lotteries(self):
        chance = chance_of(78)
        for ground, rule, _, table in chained_tables(78, 1):
            for shares in some_shares(chance, table):
                most = slow_sum(rule, table, shares)
                if most > 1:
                    with self.assertRaises(Blocked) as caught:
                        lottery_of(ground, rule, table, shares)
                    told = ("blocked", caught.exception.group)
                    self.assertEqual(lets_hours(ground, rule, table, shares, (1, 1), told), -1)
                    shares = tuple(quotient(value / most) for value in values(shares))
                hours = lottery_of(ground, rule, table, shares)
                self.assertEqual(lets_hours(ground, rule, table, shares, (1, 1), hours), len(hours))
                self.assertLessEqual(len(hours), len([share for share in shares if share[0]]))
                for row, share in enumerate(shares):
                    self.assertEqual(sureness_of(hours, (row,)), share)

    def test_raises_what_hours_for_raises(self):
        for rule in (PAIRS, MUX):
            with self.assertRaises(Refused) as caught:
                lottery_of(FREE, rule, LINE, ((9, 1),) * 4)
            self.assertTrue(is_triple(FREE, rule, caught.exception.triple))
        with self.assertRaises(Blocked) as caught:
            lottery_of(FREE, LESSON, LINE, ((1, 1), (1, 60), NOUGHT, NOUGHT))
        self.assertEqual(caught.exception.group, (0, 1))
        self.assertEqual(lottery_of(FREE, LESSON, (), ()), ())

    def test_drawn(self):
        for hours in some_hours(780):
            total = Fraction(*hours_length(hours))
            if total > 1:
                for number in (NOUGHT, (1, 2)):
                    with self.assertRaises(NotUsable) as caught:
                        drawn_by(hours, number)
                    self.assertEqual((caught.exception.word, caught.exception.at), ("hours_told", -1))
                hours = tuple((quotient(Fraction(*length) / total), group) for length, group in hours)
            told = stretches(hours)
            moments = {Fraction(0), Fraction(1, 60), Fraction(59, 60)}
            for begin, end, _ in told:
                moments |= {begin, end, (begin + end) / 2}
            for moment in moments:
                if moment < 1:
                    found = drawn_by(hours, quotient(moment))
                    self.assertEqual(found, standing_at(hours, quotient(moment)))
                    self.assertEqual([found] if found else [], [part[2] for part in told if part[0] <= moment < part[1]])
        self.assertEqual(drawn_by((), (59, 60)), ())
        self.assertEqual(drawn_by((((1, 1), (3,)),), (59, 60)), (3,))
        for number in ((1, 1), (61, 60), (-1, 60)):
            with self.assertRaises(NotUsable) as caught:
                drawn_by(DAY, number)
            self.assertEqual((caught.exception.word, caught.exception.at), ("number", -1))

    def test_sureness(self):
        chance = chance_of(781)
        for hours in some_hours(781):
            self.assertEqual(sureness_of(hours, ()), hours_length(hours))
            for row in (*range(7), 10 ** 12):
                self.assertEqual(sureness_of(hours, (row,)), share_in(hours, row))
            for _ in range(5):
                group = tuple(sorted(chance.sample(range(7), chance.randint(2, 3))))
                right = sum((end - begin for begin, end, rows in stretches(hours) if set(group) <= set(rows)), Fraction(0))
                self.assertEqual(sureness_of(hours, group), quotient(right))
        self.assertEqual(sureness_of((((7, 2), (0, 3)), ((1, 2), (0, 3, 5))), (0, 3)), (4, 1))

    def test_example(self):
        self.assertEqual(drawn_by(DAY, (1, 3)), (0, 3))
        self.assertEqual((sureness_of(DAY, (0,)), sureness_of(DAY, (0, 1))), ((1, 2), NOUGHT))


class RoomHoursTest(unittest.TestCase):

    def check(self, ground, rule, table, shares, rooms, time):
        hours = room_hours(ground, rule, table, shares, rooms, time)
        self.assertIs(is_hours(len(table), hours), True)
        self.assertEqual(lets_hours(ground, rule, table, shares, time, hours), len(hours))
        self.assertLessEqual(len(hours), 6 * len(table))
        self.assertLessEqual(max([len(group) for _, group in hours], default=0), rooms)
        return hours

    def shortest(self, shares, most, rooms):
        return max(most, sum(values(shares)) / rooms)

    def test_small_tables(self):
        chance = chance_of(80)
        for ground, rule, table in told_tables(80, 4):
            everyone = tuple(range(len(table)))
            for shares in some_shares(chance, table):
                most = slow_sum(rule, table, shares)
                for rooms in (1, 2, 3, max(1, len(table)), len(table) + 1, 10 ** 12):
                    time = self.shortest(shares, most, rooms)
                    self.check(ground, rule, table, shares, rooms, quotient(time))
                    self.check(ground, rule, table, shares, rooms, quotient(time + Fraction(7, 60)))
                    less = time - Fraction(1, 10 ** 7)
                    if less < 0:
                        continue
                    with self.assertRaises(Blocked) as caught:
                        room_hours(ground, rule, table, shares, rooms, quotient(less))
                    group = caught.exception.group
                    if less < most:
                        told = ("blocked", group)
                        self.assertEqual(lets_hours(ground, rule, table, shares, quotient(less), told), -1)
                    else:
                        self.assertEqual(group, everyone)

    def test_forty_rows(self):
        chance = chance_of(800)
        for ground, rule, table in forty_told(800):
            for shares in some_shares(chance, table)[2:4]:
                most = Fraction(*heaviest_sum(ground, rule, table, shares))
                for rooms in (1, 3, 17, 40):
                    self.check(ground, rule, table, shares, rooms, quotient(self.shortest(shares, most, rooms)))

    def test_rules_that_more_lots_tell(self):
        three = told_rule(FREE, ((0,), (1,), (2,)))
        for rule in (PAIRS, MUX, three, ((),)):
            for time in ((9, 1), NOUGHT):
                with self.assertRaises(NotUsable) as caught:
                    room_hours(FREE, rule, LINE, SOME, 1, time)
                self.assertEqual((caught.exception.word, caught.exception.at), ("rule", -1))
            for told, word in (((SOME, 0, None), "rooms"), ((SOME, 1, (-1, 1)), "time"), ((None, 0, None), "shares")):
                with self.assertRaises(NotUsable) as caught:
                    room_hours(FREE, rule, LINE, *told)
                self.assertEqual((caught.exception.word, caught.exception.at), (word, -1))

    def test_edges(self):
        self.assertEqual(room_hours(FREE, LESSON, (), (), 1, NOUGHT), ())
        self.assertEqual(room_hours(FREE, LESSON, LINE, (NOUGHT,) * 4, 1, NOUGHT), ())
        self.assertEqual(room_hours(WHOLE, (), ((1, 2),), ((5, 3),), 7, (5, 3)), (((5, 3), (0,)),))
        # A quarrel is told ahead of the sum of all shares.
        with self.assertRaises(Blocked) as caught:
            room_hours(FREE, LESSON, LINE, SOME, 1, (4, 5))
        self.assertEqual(caught.exception.group, (0, 1))

    def test_example(self):
        self.assertEqual(hours_length(room_hours(FREE, LESSON, LINE, SOME, 1, (4, 3))), (4, 3))
        with self.assertRaises(Blocked) as caught:
            room_hours(FREE, LESSON, LINE, SOME, 1, (1, 1))
        self.assertEqual(caught.exception.group, (0, 1, 2, 3))


if __name__ == "__main__":
    unittest.main()
