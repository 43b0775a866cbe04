import unittest
from fractions import Fraction

from alikeclash.equalmore import equal_more
from alikeclash.errors import Blocked, InvalidText, NotUsable, Refused
from alikeclash.further import further_share
from alikeclash.hourchecker import lets_hours
from alikeclash.hourclasses import Hours
from alikeclash.hourjoins import hours_behind, hours_without, merged_hours, mixed_hours, shortened
from alikeclash.hourkinds import hours_length, is_hours, share_in, standing_at
from alikeclash.hourlines import hours_text, read_hours
from alikeclash.hourplans import heaviest_sum, hours_for
from alikeclash.loads import load_of
from alikeclash.lotteries import sureness_of
from tests.samples import (
    EMPTY, FREE, LESSON, LINE, MUX, PAIRS, WHOLE, chained_tables, chance_of, forty_rows, is_triple, quotient, slow_sum,
    some_shares,
)
from tests.test_hours import DAY, NOUGHT, some_hours, stretches

PARTS = (NOUGHT, (1, 1), (1, 3), (59, 60), (1, 60))


def pairs_of(number):
    chance = chance_of(number)
    hours = list(some_hours(number, 30))
    return [(one, chance.choice(hours)) for one in hours]


class HourJoinsTest(unittest.TestCase):

    def test_behind(self):
        for one, other in pairs_of(79):
            joint = hours_behind(one, other)
            self.assertEqual(joint, one + other)
            self.assertIs(type(joint), tuple)
            for row in range(7):
                both = Fraction(*share_in(one, row)) + Fraction(*share_in(other, row))
                self.assertEqual(share_in(joint, row), quotient(both))
        self.assertEqual((hours_behind((), ()), hours_behind((), DAY), hours_behind(DAY, ())), ((), DAY, DAY))

    def test_shortened(self):
        for hours, _ in pairs_of(790):
            for part in PARTS:
                short = shortened(hours, part)
                right = tuple((quotient(Fraction(*length) * Fraction(*part)), group) for length, group in hours)
                self.assertEqual(short, right if part != NOUGHT else ())
                self.assertIs(is_hours(6, short), True)
                for row in range(7):
                    self.assertEqual(share_in(short, row), quotient(Fraction(*share_in(hours, row)) * Fraction(*part)))
        self.assertEqual((shortened(DAY, NOUGHT), shortened(DAY, (1, 1)), shortened((), (1, 2))), ((), DAY, ()))

    def test_mixed(self):
        for one, other in pairs_of(791):
            for part in PARTS:
                rest = quotient(1 - Fraction(*part))
                self.assertEqual(mixed_hours(one, other, part), shortened(one, part) + shortened(other, rest))
            self.assertEqual((mixed_hours(one, other, (1, 1)), mixed_hours(one, other, NOUGHT)), (one, other))

    def test_without(self):
        for hours, _ in pairs_of(792):
            for row in (*range(7), 40, 10 ** 12):
                rest = hours_without(hours, row)
                right = [(length, tuple(other for other in group if other != row)) for length, group in hours]
                self.assertEqual(rest, tuple(piece for piece in right if piece[1]))
                self.assertIs(is_hours(6, rest), True)
                self.assertEqual(share_in(rest, row), NOUGHT)
                for other in range(7):
                    if other != row:
                        self.assertEqual(share_in(rest, other), share_in(hours, other))
        self.assertEqual(hours_without((((1, 2), (3,)),), 3), ())

    def test_merged(self):
        chance = chance_of(793)
        for hours, _ in pairs_of(794):
            # Some pieces are parted, so that there is something to merge.
            parted = []
            for length, group in hours:
                half = quotient(Fraction(*length) / 2)
                parted.extend(chance.choice(([(length, group)], [(half, group)] * 2)))
            parted = tuple(parted)
            merged = merged_hours(parted)
            self.assertIs(is_hours(6, merged), True)
            for k in range(len(merged) - 1):
                self.assertNotEqual(merged[k][1], merged[k + 1][1])
            moments = {end for part in (parted, hours) for _, end, _ in stretches(part)} | {Fraction(0), Fraction(1, 59)}
            for moment in moments:
                self.assertEqual(standing_at(merged, quotient(moment)), standing_at(hours, quotient(moment)))
            self.assertEqual(hours_length(merged), hours_length(hours))
        self.assertEqual(merged_hours(()), ())
        self.assertEqual(merged_hours(DAY), DAY)
        twice = DAY[:1] * 3 + DAY[1:2] + DAY[:1]
        self.assertEqual(merged_hours(twice), (((3, 4), (0, 2)), ((1, 4), (0, 3)), ((1, 4), (0, 2))))

    def test_example(self):
        mixed = (((1, 12), (0, 2)), ((1, 12), (0, 3)), ((1, 9), (1,)), ((2, 3), (0,)))
        self.assertEqual(mixed_hours(DAY, (((1, 1), (0,)),), (1, 3)), mixed)
        self.assertEqual(hours_without(DAY, 0), (((1, 4), (2,)), ((1, 4), (3,)), ((1, 3), (1,))))
        self.assertEqual(merged_hours((((1, 4), (0,)), ((1, 3), (0,)))), (((7, 12), (0,)),))


class HourLinesTest(unittest.TestCase):

    def test_there_and_back(self):
        for hours in some_hours(81):
            text = hours_text(hours)
            lines = [f"{length[0]}/{length[1]}" + "".join(f" {row}" for row in group) for length, group in hours]
            self.assertEqual(text, "\n".join(lines))
            self.assertEqual(read_hours(text), hours)
            self.assertEqual(hours_text(read_hours(text)), text)
        large = (((10 ** 60 + 1, 10 ** 60), (0, 39, 10 ** 12)),)
        self.assertEqual(read_hours(hours_text(large)), large)
        self.assertEqual((hours_text(()), read_hours("")), ("", ()))

    def test_wrong_texts(self):
        for text, line, field in (
            ("\n", 0, 0), ("1/4 0\n", 1, 0), ("\n1/4 0", 0, 0), (" ", 0, 0), (" 1/4 0", 0, 0), ("1/4", 0, 1), ("1/4 ", 0, 1),
            ("1/4 0 ", 0, 2), ("1/4  0", 0, 1), ("1/4 0  1", 0, 2), ("2/4 0", 0, 0), ("0/1 0", 0, 0), ("-1/4 0", 0, 0),
            ("1/0 0", 0, 0), ("0/0 0", 0, 0), ("01/4 0", 0, 0), ("1/04 0", 0, 0), ("1 / 4 0", 0, 0), ("1/ 4 0", 0, 0),
            ("1/4/1 0", 0, 0), ("1//4 0", 0, 0), ("/4 0", 0, 0), ("1/ 0", 0, 0), ("/ 0", 0, 0), ("1 0", 0, 0), ("1/-4 0", 0, 0),
            ("+1/4 0", 0, 0), ("1/4 00", 0, 1), ("1/4 01", 0, 1), ("1/4 -1", 0, 1), ("1/4 x", 0, 1), ("1/4 0 0", 0, 2),
            ("1/4 0 2 1", 0, 3), ("1/4 1/4", 0, 1), ("1/4 0 1/4", 0, 2), ("1/4 0\n1/4", 1, 1), ("1/4 0\n1/4 1\n1/4 2 x", 2, 2),
            ("1/4 0\n\n1/4 1", 1, 0), ("1/4 0\n2/4", 1, 0), ("1/4 0\n1/4 1 ", 1, 2), ("0/2 0", 0, 0), ("1/4 1 10 9", 0, 3),
            ("1/4 0,1", 0, 1), ("(1/4) 0", 0, 0), ("1/4\n1/4 0", 0, 1), ("0/1", 0, 0),
        ):
            with self.assertRaises(InvalidText, msg=text) as caught:
                read_hours(text)
            self.assertEqual((caught.exception.line, caught.exception.field), (line, field), text)

    def test_right_texts(self):
        self.assertEqual(read_hours("1/1 0"), (((1, 1), (0,)),))
        self.assertEqual(read_hours("7/3 9 10\n7/3 9 10"), (((7, 3), (9, 10)),) * 2)

    def test_example(self):
        self.assertEqual(hours_text(DAY), "1/4 0 2\n1/4 0 3\n1/3 1")
        self.assertEqual(read_hours("2/1 0 10"), (((2, 1), (0, 10)),))
        for text, told in (("1/4 0\n2/4 1", (1, 0)), ("1/4 2 0", (0, 2))):
            with self.assertRaises(InvalidText) as caught:
                read_hours(text)
            self.assertEqual((caught.exception.line, caught.exception.field), told)


class HoursTest(unittest.TestCase):

    def test_shares_one_by_one(self):
        chance = chance_of(810)
        blocked = 0
        for ground, rule, _, table in chained_tables(810, 1, 8):
            wanted = some_shares(chance, table)[2]
            time = quotient(slow_sum(rule, table, wanted) * Fraction(3, 4) + Fraction(1, 60))
            hours, shares = Hours(ground, rule, table, time), [NOUGHT] * len(table)
            self.assertEqual((hours.given_now(), hours.plan()), (tuple(shares), ()))
            for row in chance.sample(range(len(table)), len(table)):
                more = hours.more(row)
                self.assertEqual(more, further_share(ground, rule, table, tuple(shares), time, row))
                told = shares[:row] + [wanted[row]] + shares[row + 1:]
                before = hours.plan()
                if Fraction(*wanted[row]) > Fraction(*more):
                    blocked += 1
                    with self.assertRaises(Blocked) as caught:
                        hours.give(row, wanted[row])
                    paper = ("blocked", caught.exception.group)
                    self.assertEqual(lets_hours(ground, rule, table, tuple(told), time, paper), -1)
                    self.assertEqual((hours.given_now(), hours.plan()), (tuple(shares), before))
                else:
                    self.assertEqual(hours.give(row, wanted[row]), quotient(slow_sum(rule, table, told)))
                    shares = told
                self.assertEqual(hours.given_now(), tuple(shares))
                plan = hours.plan()
                self.assertEqual(lets_hours(ground, rule, table, tuple(shares), time, plan), len(plan))
                self.assertLessEqual(len(plan), len([share for share in shares if share[0]]))
                self.assertEqual(hours.plan(), plan)
                for moment in (NOUGHT, (1, 60), time, (59, 7)):
                    self.assertEqual(hours.stands(moment), standing_at(plan, moment))
        self.assertGreater(blocked, 5)

    def test_shares_may_be_lessened(self):
        hours = Hours(FREE, LESSON, LINE, (1, 1))
        self.assertEqual(hours.give(0, (1, 1)), (1, 1))
        self.assertEqual((hours.more(1), hours.more(2)), (NOUGHT, (1, 1)))
        with self.assertRaises(Blocked):
            hours.give(0, (61, 60))
        self.assertEqual(hours.give(0, (1, 3)), (1, 3))
        self.assertEqual(hours.give(0, NOUGHT), NOUGHT)
        self.assertEqual((hours.plan(), hours.given_now()), ((), (NOUGHT,) * 4))
        none = Hours(FREE, LESSON, LINE, NOUGHT)
        self.assertEqual((none.give(2, NOUGHT), none.more(2), none.stands(NOUGHT)), (NOUGHT, NOUGHT, ()))

    def test_wrong_calls_change_nothing(self):
        hours = Hours(FREE, LESSON, LINE, (1, 1))
        hours.give(0, (1, 2))
        before = (hours.given_now(), hours.plan())
        for call, word in (
            (lambda: hours.give(4, (1, 2)), "row"), (lambda: hours.give(True, None), "row"), (lambda: hours.give(0, 1), "share"),
            (lambda: hours.give(0, (-1, 2)), "share"), (lambda: hours.give(0, (2, 4)), "share"), (lambda: hours.more(None), "row"),
            (lambda: hours.stands((-1, 2)), "moment"), (lambda: hours.give(0, (True, 1)), "share"),
        ):
            with self.assertRaises(NotUsable) as caught:
                call()
            self.assertEqual((caught.exception.word, caught.exception.at), (word, -1))
            self.assertEqual((hours.given_now(), hours.plan()), before)

    def test_made(self):
        for things, word in (
            ((None, None, None, None), "ground"), ((FREE, [()], None, ()), "rule"), ((FREE, PAIRS, list(LINE), None), "table"),
            ((FREE, PAIRS, LINE, (-1, 1)), "time"), ((FREE, PAIRS, LINE, 1), "time"),
        ):
            with self.assertRaises(NotUsable) as caught:
                Hours(*things)
            self.assertEqual((caught.exception.word, caught.exception.at), (word, -1))
        for rule in (PAIRS, MUX):
            for table in (LINE, ()):
                with self.assertRaises(Refused) as caught:
                    Hours(FREE, rule, table, (1, 1))
                self.assertTrue(is_triple(FREE, rule, caught.exception.triple))
        for ground in (EMPTY, WHOLE):
            hours = Hours(ground, (), (), NOUGHT)
            self.assertEqual((hours.given_now(), hours.plan(), hours.stands(NOUGHT)), ((), (), ()))

    def test_two_are_apart(self):
        one, other = Hours(FREE, LESSON, LINE, (1, 1)), Hours(FREE, LESSON, LINE, (1, 1))
        one.give(0, (1, 2))
        self.assertEqual(other.given_now(), (NOUGHT,) * 4)

    def test_example(self):
        desk = Hours(FREE, LESSON, LINE, (1, 1))
        self.assertEqual((desk.give(0, (1, 2)), desk.give(1, (1, 3)), desk.more(2)), ((1, 2), (5, 6), (2, 3)))


class ConsequencesTest(unittest.TestCase):

    def test_of_sums(self):
        chance = chance_of(820)
        for ground, rule, _, table in forty_rows(820, 1):
            weights = tuple(chance.randint(0, 10 ** 12) for _ in table)
            shares = tuple((weight, 1) for weight in weights)
            load = load_of(ground, rule, table, weights)
            self.assertEqual(heaviest_sum(ground, rule, table, shares), (load, 1))
            hours = hours_for(ground, rule, table, shares, (load, 1))
            self.assertEqual(lets_hours(ground, rule, table, shares, (load, 1), hours), len(hours))
            with self.assertRaises(Blocked):
                hours_for(ground, rule, table, shares, (load - 1, 1))
            row = chance.randrange(len(table))
            self.assertEqual(sureness_of(hours, (row,)), share_in(hours, row))
            time = (load + 7, 1)
            more = further_share(ground, rule, table, shares, time, row)
            raised = shares[:row] + ((weights[row] + more[0], 1),) + shares[row + 1:]
            self.assertEqual((more[1], heaviest_sum(ground, rule, table, raised)), (1, time))
            all_more = equal_more(ground, rule, table, shares, time)[0]
            raised = tuple(quotient(weight + Fraction(*all_more)) for weight in weights)
            self.assertEqual(heaviest_sum(ground, rule, table, raised), time)
            self.assertEqual(read_hours(hours_text(hours)), hours)


if __name__ == "__main__":
    unittest.main()
