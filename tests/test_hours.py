import unittest
from fractions import Fraction

from alikeclash.clashes import is_quarrel
from alikeclash.errors import Blocked, NotUsable, Refused
from alikeclash.further import barring_quarrel, further_share
from alikeclash.hourchecker import lets_hours
from alikeclash.hourkinds import changes_of, hours_length, is_hours, share_in, standing_at
from alikeclash.hourplans import heaviest_sum, hours_for
from alikeclash.kinds import is_quotient
from alikeclash.loads import load_of
from alikeclash.sharebreaks import share_break
from tests.samples import (
    EMPTY, EMPTY_HELD, FREE, LESSON, LINE, MUX, ODD, ONE, PAIRS, WHOLE, chained_tables, chance_of, fault_of, forty_rows,
    is_group, is_triple, open_ones, quotient, random_ground, random_rule, random_table, regrouped, slow_piece_fault,
    slow_sum, some_shares, spoilt, stands, values,
)

SOME = ((1, 2), (1, 3), (1, 4), (1, 4))
DAY = (((1, 4), (0, 2)), ((1, 4), (0, 3)), ((1, 3), (1,)))
NOUGHT = (0, 1)


def some_hours(number, many=60):
    """Hours of six rows at most, whatever clashes."""
    chance = chance_of(number)
    yield ()
    yield DAY
    for _ in range(many):
        hours = []
        for _ in range(chance.randint(1, 7)):
            group = tuple(sorted(chance.sample(range(6), chance.randint(1, 4))))
            hours.append((quotient(Fraction(chance.randint(1, 9), chance.randint(1, 12))), group))
        yield tuple(hours)


def stretches(hours):
    """The triples (begin, end, group) of all pieces, in Fractions."""
    begin, told = Fraction(0), []
    for length, group in hours:
        told.append((begin, begin + Fraction(*length), group))
        begin += Fraction(*length)
    return told


class HourKindsTest(unittest.TestCase):

    def test_kinds(self):
        for many, thing in (
            (0, ()), (4, ()), (4, DAY), (10 ** 12, DAY), (1, (((1, 2), (0,)), ((1, 2), (0,)))), (2, (((10 ** 60, 1), (0, 1)),)),
        ):
            self.assertIs(is_hours(many, thing), True, thing)
        for thing in ODD:
            self.assertIs(is_hours(4, thing), thing == (), thing)
        for many, thing in (
            (3, DAY), (0, DAY), (4, list(DAY)), (4, DAY[0]), (4, (((1, 2), ()),)), (4, (((1, 2), (1, 0)),)),
            (4, (((1, 2), (0, 0)),)), (4, (((1, 2), (True,)),)), (4, (((1, 2), [0]),)), (4, (((1, 2), 0),)), (4, ((1, (0,)),)),
            (4, (((0, 1), (0,)),)), (4, (((-1, 2), (0,)),)), (4, (((2, 4), (0,)),)), (4, (((1, True), (0,)),)),
            (4, ((True, (0,)),)), (4, (((1, 0), (0,)),)), (4, (([1, 2], (0,)),)), (4, ([(1, 2), (0,)],)), (4, (((1, 2), (4,)),)),
            (4, (((1, 2), (0,), 0),)), (4, (((1, 2),),)), (4, (((1, 2, 3), (0,)),)), (4, (((1, 2), (-1,)),)), (4, (None,)),
            (4, (("1/2", (0,)),)), (4, (((1, -2), (0,)),)), (4, (((1, 2), "0"),)),
        ):
            self.assertIs(is_hours(many, thing), False, thing)

    def test_lengths_and_shares(self):
        for hours in some_hours(73):
            told = stretches(hours)
            self.assertEqual(hours_length(hours), quotient(told[-1][1] if told else Fraction(0)))
            for row in (*range(7), 40, 10 ** 12):
                share = sum((end - begin for begin, end, group in told if row in group), Fraction(0))
                self.assertEqual(share_in(hours, row), quotient(share))

    def test_standing(self):
        for hours in some_hours(730):
            told = stretches(hours)
            moments = {Fraction(0), Fraction(1, 60), Fraction(10 ** 12)}
            for begin, end, _ in told:
                moments |= {begin, end, (begin + end) / 2, end - Fraction(1, 10 ** 6), end + Fraction(1, 10 ** 6)}
            for moment in moments:
                group = [group for begin, end, group in told if begin <= moment < end]
                self.assertEqual(standing_at(hours, quotient(moment)), group[0] if group else ())

    def test_changes(self):
        for hours in some_hours(731):
            for row in (*range(7), 10 ** 12):
                right = []
                for begin, end, group in stretches(hours):
                    if row in group and right and right[-1][1] == begin:
                        right[-1] = (right[-1][0], end)
                    elif row in group:
                        right.append((begin, end))
                pairs = tuple((quotient(begin), quotient(end)) for begin, end in right)
                self.assertEqual(changes_of(hours, row), pairs)
        joined = (((1, 4), (0,)), ((1, 4), (0, 1)), ((1, 2), (1,)), ((1, 3), (0,)))
        self.assertEqual(changes_of(joined, 0), (((0, 1), (1, 2)), ((1, 1), (4, 3))))
        self.assertEqual(changes_of(joined, 1), (((1, 4), (1, 1)),))

    def test_edges(self):
        self.assertEqual((hours_length(()), share_in((), 0), changes_of((), 0)), (NOUGHT, NOUGHT, ()))
        self.assertEqual((standing_at((), NOUGHT), standing_at((), (1, 2))), ((), ()))
        one = (((1, 3), (2,)),)
        self.assertEqual((hours_length(one), share_in(one, 2), share_in(one, 1)), ((1, 3), (1, 3), NOUGHT))
        self.assertEqual([standing_at(one, moment) for moment in (NOUGHT, (1, 4), (1, 3), (1, 2))], [(2,), (2,), (), ()])

    def test_example(self):
        self.assertEqual((is_hours(4, DAY), is_hours(3, DAY)), (True, False))
        self.assertEqual((hours_length(DAY), share_in(DAY, 0), share_in(DAY, 9)), ((5, 6), (1, 2), NOUGHT))
        self.assertEqual((standing_at(DAY, (1, 4)), standing_at(DAY, (5, 6))), ((0, 3), ()))
        self.assertEqual(changes_of(DAY, 0), ((NOUGHT, (1, 2)),))
        self.assertEqual(changes_of(DAY, 3), (((1, 4), (1, 2)),))


class HoursForTest(unittest.TestCase):

    def check(self, ground, rule, table, shares, most):
        hours = hours_for(ground, rule, table, shares, most)
        self.assertIs(is_hours(len(table), hours), True)
        filled = len([share for share in shares if share[0] > 0])
        self.assertLessEqual(len(hours), filled)
        self.assertLessEqual(Fraction(*hours_length(hours)), Fraction(*most))
        for row, share in enumerate(shares):
            self.assertEqual(share_in(hours, row), share)
        for _, group in hours:
            self.assertTrue(stands(rule, table, group, False))
        self.assertEqual(lets_hours(ground, rule, table, shares, most, hours), len(hours))
        return hours

    def blocked(self, ground, rule, table, shares, time, call):
        with self.assertRaises(Blocked) as caught:
            call()
        group = caught.exception.group
        self.assertIs(is_quarrel(ground, rule, table, group), True)
        self.assertGreater(sum(values([shares[row] for row in group])), Fraction(*time))
        self.assertEqual(lets_hours(ground, rule, table, shares, time, ("blocked", group)), -1)

    def test_small_tables(self):
        chance = chance_of(74)
        for ground, rule, _, table in chained_tables(74, 2):
            for shares in some_shares(chance, table):
                most = slow_sum(rule, table, shares)
                self.assertEqual(heaviest_sum(ground, rule, table, shares), quotient(most))
                self.check(ground, rule, table, shares, quotient(most))
                self.check(ground, rule, table, shares, quotient(most + Fraction(1, 59)))
                for less in (most - Fraction(1, 10 ** 6), most / 2, Fraction(0)):
                    if 0 <= less < most:
                        self.blocked(ground, rule, table, shares, quotient(less), lambda: hours_for(
                            ground, rule, table, shares, quotient(less),
                        ))

    def test_forty_rows(self):
        chance = chance_of(740)
        for ground, rule, _, table in forty_rows(740, 2):
            for shares in some_shares(chance, table)[1:]:
                most = heaviest_sum(ground, rule, table, shares)
                self.assertTrue(is_quotient(most))
                self.check(ground, rule, table, shares, most)
                less = quotient(Fraction(*most) - Fraction(1, 10 ** 20))
                self.blocked(ground, rule, table, shares, less, lambda: hours_for(ground, rule, table, shares, less))

    def test_shares_that_are_numbers(self):
        chance = chance_of(741)
        for ground, rule, _, table in forty_rows(741, 1):
            weights = tuple(chance.randint(0, 10 ** 12) for _ in table)
            shares = tuple((weight, 1) for weight in weights)
            self.assertEqual(heaviest_sum(ground, rule, table, shares), (load_of(ground, rule, table, weights), 1))

    def test_edges(self):
        for ground in (EMPTY, EMPTY_HELD, WHOLE, FREE, ONE):
            for rule in {(), tuple(open_ones(ground))}:
                row = ((3,) * ground[0],)
                self.assertEqual(heaviest_sum(ground, rule, (), ()), NOUGHT)
                self.assertEqual(hours_for(ground, rule, (), (), NOUGHT), ())
                self.assertEqual(hours_for(ground, rule, row, (NOUGHT,), NOUGHT), ())
                self.assertEqual(hours_for(ground, rule, row, ((5, 3),), (5, 3)), (((5, 3), (0,)),))
                with self.assertRaises(Blocked) as caught:
                    hours_for(ground, rule, row, ((5, 3),), (18, 11))
                self.assertEqual(caught.exception.group, (0,))
        self.assertEqual(hours_for(FREE, LESSON, LINE, (NOUGHT,) * 4, NOUGHT), ())
        forty = tuple((k,) for k in range(40))
        shares = tuple((1, bottom) for bottom in range(21, 61))
        self.check(ONE, ((),), forty, shares, heaviest_sum(ONE, ((),), forty, shares))
        self.assertEqual(heaviest_sum(ONE, (), forty, shares), (1, 21))
        self.check(ONE, (), forty, shares, (1, 21))

    def test_rules_without_a_chain(self):
        for rule in (PAIRS, MUX):
            for function, rest in ((heaviest_sum, ()), (hours_for, (NOUGHT,)), (hours_for, ((9, 1),))):
                for table, shares in ((LINE, SOME), ((), ())):
                    with self.assertRaises(Refused) as caught:
                        function(FREE, rule, table, shares, *rest)
                    self.assertTrue(is_triple(FREE, rule, caught.exception.triple))
                with self.assertRaises(NotUsable) as caught:
                    function(FREE, rule, LINE, SOME[:3], *rest)
                self.assertEqual(caught.exception.word, "shares")
            with self.assertRaises(NotUsable) as caught:
                hours_for(FREE, rule, LINE, SOME, (-1, 1))
            self.assertEqual(caught.exception.word, "time")
        # Equal shares on some ring need more than the greatest sum of a quarrel.
        table, share = share_break(FREE, MUX)
        shares = (share,) * len(table)
        self.assertLessEqual(slow_sum(MUX, table, shares), 1)
        one_by_one = tuple((share, (row,)) for row in range(len(table)))
        self.assertEqual(fault_of(lets_hours, FREE, MUX, table, shares, (1, 1), one_by_one), ("length", -1))
        self.assertEqual(fault_of(lets_hours, FREE, MUX, table, shares, (7, 1), one_by_one), len(table))

    def test_example(self):
        self.assertEqual(hours_length(hours_for(FREE, LESSON, LINE, SOME, (5, 6))), (5, 6))
        self.assertEqual(heaviest_sum(FREE, LESSON, LINE, SOME), (5, 6))


def slow_lets_hours(rule, table, shares, time, thing):
    """What lets_hours returns, or the word and the place of the fault, as [75] tells."""
    if type(thing) is not tuple:
        return "shape", -1
    if len(thing) == 2 and type(thing[0]) is str and thing[0] == "blocked":
        if not is_group(len(table), thing[1]) or not stands(rule, table, thing[1], True):
            return "group", 1
        return -1 if sum(values([shares[row] for row in thing[1]])) > Fraction(*time) else ("sum", -1)

    def is_length(value):
        if type(value) is not tuple or len(value) != 2 or any(type(part) is not int for part in value) or value[1] < 1:
            return False
        return value[0] > 0 and quotient(Fraction(*value)) == value

    for k, piece in enumerate(thing):
        fault = slow_piece_fault(rule, table, k, piece, False, is_length)
        if fault:
            return fault
    for row, share in enumerate(shares):
        if sum(Fraction(*length) for length, group in thing if row in group) != Fraction(*share):
            return "given", row
    return len(thing) if sum(Fraction(*length) for length, _ in thing) <= Fraction(*time) else ("length", -1)


class HourCheckerTest(unittest.TestCase):

    def fault(self, thing, time=(1, 1), rule=LESSON):
        return fault_of(lets_hours, FREE, rule, LINE, SOME, time, thing)

    def test_shape(self):
        for thing in (*[thing for thing in ODD if type(thing) is not tuple], list(DAY), "blocked", ["blocked", (0, 1)]):
            self.assertEqual(self.fault(thing), ("shape", -1), thing)

    def test_blocked(self):
        self.assertEqual(self.fault(("blocked", (0, 1)), (3, 4)), -1)
        for group in (None, [0, 1], (1, 0), (0, 0), (0, 4), (True,), (-1,), (0, 2), (0, 1, 2), "01", 0, (3, True)):
            self.assertEqual(self.fault(("blocked", group), NOUGHT), ("group", 1), group)
        for group, time in (((0, 1), (5, 6)), ((0, 1), (1, 1)), ((), NOUGHT), ((3,), (1, 4))):
            self.assertEqual(self.fault(("blocked", group), time), ("sum", -1), group)
        # Only a pair with the string ahead states this.
        for thing in (("blocked",), ("blocked", (0, 1), 0), ("Blocked", (0, 1)), (("blocked", (0, 1)),)):
            self.assertEqual(self.fault(thing, (3, 4)), ("piece", 0), thing)

    def test_pieces(self):
        for piece in (
            None, (), [(1, 4), (0,)], ((0, 1), (0,)), ((-1, 4), (0,)), ((2, 8), (0,)), (True, (0,)), ((1, 4), ()),
            ((1, 4), [0]), ((1, 4), (1, 0)), ((1, 4), (4,)), ((1, 4), (False,)), ((1, 4), (0,), 0), ((1, 4),), (1, (0,)),
            ((1, True), (0,)), ("blocked", (0, 1)),
        ):
            self.assertEqual(self.fault(DAY[:1] + (piece, ((1, 4), (0, 1)))), ("piece", 1), piece)
            self.assertEqual(self.fault((((1, 4), (0, 1)), piece)), ("clash", 0), piece)

    def test_given_and_length(self):
        self.assertEqual(self.fault(DAY), 3)
        self.assertEqual(self.fault(DAY[::-1]), 3)
        self.assertEqual(self.fault(DAY, (5, 6)), 3)
        self.assertEqual(self.fault(DAY, (49, 59)), ("length", -1))
        self.assertEqual(self.fault(DAY, NOUGHT), ("length", -1))
        self.assertEqual(self.fault(DAY[:2], NOUGHT), ("given", 1))
        self.assertEqual(self.fault(DAY[1:]), ("given", 0))
        self.assertEqual(self.fault(DAY + DAY[2:]), ("given", 1))
        self.assertEqual(self.fault((((1, 4), (0, 2)), ((1, 4), (0,)), ((1, 3), (1,)))), ("given", 3))
        self.assertEqual(self.fault(()), ("given", 0))
        self.assertEqual(fault_of(lets_hours, FREE, LESSON, LINE, (NOUGHT,) * 4, NOUGHT, ()), 0)
        self.assertEqual(fault_of(lets_hours, FREE, LESSON, (), (), NOUGHT, ()), 0)
        # One row may have many pieces, also behind one another.
        pieces = DAY[:2] + (((1, 6), (1,)), ((1, 6), (1,)))
        self.assertEqual(self.fault(pieces), 4)

    def test_all_kinds(self):
        chance = chance_of(75)
        seen = {}
        for _ in range(500):
            ground = random_ground(chance, 3, chance.randint(0, 1))
            rule = random_rule(chance, ground)
            table = random_table(chance, ground, 12, 3)[:5]
            shares = some_shares(chance, table)[chance.choice((0, 1, 2, 4))]
            time = chance.choice((NOUGHT, (1, 7), (1, 1), (5, 2), (30, 1)))
            hours = tuple((share, (row,)) for row, share in enumerate(shares) if share[0])
            group = tuple(sorted(chance.sample(range(len(table)), min(len(table), chance.randint(0, 3)))))
            for thing in (
                hours, spoilt(chance, hours), spoilt(chance, hours), regrouped(chance, hours, len(table)),
                ("blocked", group), spoilt(chance, ("blocked", group)),
            ):
                right = slow_lets_hours(rule, table, shares, time, thing)
                self.assertEqual(fault_of(lets_hours, ground, rule, table, shares, time, thing), right, thing)
                word = right[0] if type(right) is tuple else "blocked" if right == -1 else "right"
                seen[word] = seen.get(word, 0) + 1
        self.assertEqual(set(seen), {"shape", "group", "sum", "piece", "clash", "given", "length", "blocked", "right"})
        self.assertGreater(min(seen.values()), 10, seen)

    def test_rules_without_a_chain(self):
        one_by_one = tuple((share, (row,)) for row, share in enumerate(SOME))
        for rule in (PAIRS, MUX):
            self.assertEqual(self.fault(one_by_one, (4, 3), rule), 4)
            self.assertEqual(self.fault(one_by_one, (1, 1), rule), ("length", -1))
            self.assertEqual(self.fault(("blocked", (0,)), (1, 3), rule), -1)

    def test_example(self):
        self.assertEqual(lets_hours(FREE, LESSON, LINE, SOME, (1, 1), DAY), 3)
        self.assertEqual(lets_hours(FREE, LESSON, LINE, SOME, (3, 4), ("blocked", (0, 1))), -1)


class FurtherTest(unittest.TestCase):

    def check(self, ground, rule, table, shares, time, row, through):
        more = further_share(ground, rule, table, shares, time, row)
        self.assertEqual(more, quotient(Fraction(*time) - through))
        group = barring_quarrel(ground, rule, table, shares, time, row)
        self.assertIn(row, group)
        self.assertIs(is_quarrel(ground, rule, table, group), True)
        self.assertEqual(sum(values([shares[other] for other in group])) + Fraction(*more), Fraction(*time))
        raised = shares[:row] + (quotient(Fraction(*shares[row]) + Fraction(*more)),) + shares[row + 1:]
        self.assertLessEqual(len(hours_for(ground, rule, table, raised, time)), len(table))
        above = quotient(Fraction(*raised[row]) + Fraction(1, 10 ** 9))
        with self.assertRaises(Blocked):
            hours_for(ground, rule, table, raised[:row] + (above,) + raised[row + 1:], time)

    def test_small_tables(self):
        chance = chance_of(76)
        for ground, rule, _, table in chained_tables(76, 1, 7):
            for shares in some_shares(chance, table):
                most = slow_sum(rule, table, shares)
                for time in (most, most + Fraction(1, 60), most * 3 + 1):
                    for row in range(len(table)):
                        self.check(ground, rule, table, shares, quotient(time), row, slow_sum(rule, table, shares, row))

    def test_forty_rows(self):
        chance = chance_of(760)
        for ground, rule, _, table in forty_rows(760, 1):
            shares = some_shares(chance, table)[3]
            time = heaviest_sum(ground, rule, table, shares)
            found = [further_share(ground, rule, table, shares, time, row) for row in range(len(table))]
            self.assertIn(NOUGHT, found)
            for row in chance.sample(range(len(table)), 3):
                more = Fraction(*found[row])
                through = Fraction(*time) - more
                self.assertGreaterEqual(more, 0)
                self.check(ground, rule, table, shares, time, row, through)

    def test_blocked(self):
        for function in (further_share, barring_quarrel):
            for time in (NOUGHT, (1, 2), (49, 59)):
                with self.assertRaises(Blocked) as caught:
                    function(FREE, LESSON, LINE, SOME, time, 3)
                self.assertEqual(lets_hours(FREE, LESSON, LINE, SOME, time, ("blocked", caught.exception.group)), -1)
            with self.assertRaises(NotUsable) as caught:
                function(FREE, LESSON, LINE, SOME, NOUGHT, 4)
            self.assertEqual((caught.exception.word, caught.exception.at), ("row", -1))

    def test_rules_without_a_chain(self):
        for rule in (PAIRS, MUX):
            for function in (further_share, barring_quarrel):
                for time in (NOUGHT, (9, 1)):
                    with self.assertRaises(Refused) as caught:
                        function(FREE, rule, LINE, SOME, time, 0)
                    self.assertTrue(is_triple(FREE, rule, caught.exception.triple))
                with self.assertRaises(NotUsable) as caught:
                    function(FREE, rule, LINE, SOME, (9, 1), True)
                self.assertEqual(caught.exception.word, "row")

    def test_edges(self):
        self.assertEqual(further_share(FREE, LESSON, LINE, (NOUGHT,) * 4, NOUGHT, 2), NOUGHT)
        self.assertEqual(further_share(FREE, LESSON, LINE, (NOUGHT,) * 4, (7, 3), 2), (7, 3))
        self.assertEqual(further_share(WHOLE, (), ((1, 2),), ((1, 3),), (1, 2), 0), (1, 6))
        self.assertEqual(barring_quarrel(WHOLE, (), ((1, 2),), ((1, 3),), (1, 2), 0), (0,))

    def test_example(self):
        self.assertEqual(further_share(FREE, LESSON, LINE, SOME, (1, 1), 1), (1, 6))
        self.assertEqual(barring_quarrel(FREE, LESSON, LINE, SOME, (1, 1), 1), (0, 1))


if __name__ == "__main__":
    unittest.main()
