import unittest

from alikeclash import kinds
from alikeclash.errors import NotUsable
from alikeclash.quotients import at_most, minus, over, plus, quotient_of, rounded_up, times
from fractions import Fraction
from tests.samples import ODD


class KindsTest(unittest.TestCase):

    def accepts(self, kind, accepted, refused):
        for thing in accepted:
            self.assertIs(kind(thing), True, thing)
        for thing in refused:
            self.assertIs(kind(thing), False, thing)

    def test_integers_numbers_words(self):
        self.accepts(kinds.is_integer, (0, 1, -1, 10 ** 60, -10 ** 60), (True, False, None, "1", "", (1,), [1], ()))
        self.accepts(kinds.is_number, (0, 1, 10 ** 60), (-1, True, False, None, "0", (0,), [0]))
        self.accepts(kinds.is_word, (True, False), (0, 1, None, "True", "", (True,), [], ()))

    def test_quotients(self):
        accepted = ((0, 1), (1, 1), (-1, 1), (1, 2), (-3, 2), (10 ** 59, 3), (3, 10 ** 59))
        refused = (
            (2, 4), (0, 2), (0, 0), (1, 0), (1, -1), (-1, -2), (0, -1), (True, 1), (1, True), (False, 1), (0, True),
            [1, 2], (1,), (1, 2, 3), (), 1, None, "1/2", ("1", 2), (1, "2"), (1, None), ((1,), 2), (-2, 2),
        )
        self.accepts(kinds.is_quotient, accepted, refused)

    def test_lots(self):
        for size in range(4):
            for kind in (kinds.is_lot, kinds.is_group):
                refused = [
                    (size,), (-1,), (True,), (False,), (0, True), [0], [], None, 0, "", "0", (None,), ("0",), (0, 0),
                    (1, 0), ((),), (0, 1, 1), (0, size),
                ]
                accepted = [(), tuple(range(size)), tuple(range(0, size, 2)), tuple(range(1, size))]
                self.accepts(lambda thing: kind(size, thing), accepted, refused)
        self.assertIs(kinds.is_lot(3, (0, 1, 2)), True)
        self.assertIs(kinds.is_lot(10 ** 60, (0, 10 ** 59)), True)
        self.assertIs(kinds.is_group(10 ** 12, (10 ** 12,)), False)

    def test_dependences(self):
        accepted = (((), ()), ((0,), (1,)), ((0, 1, 2), ()), ((), (0, 1, 2)), ((1,), (1,)))
        refused = (
            ((0,),), ((0,), (1,), (2,)), [(0,), (1,)], ([0], (1,)), ((0,), [1]), ((3,), ()), ((), (3,)), ((1, 0), ()),
            ((True,), ()), ((), (False,)), (), None, 0, (0, 1), ((0,), 1), "01", ("", ""),
        )
        self.accepts(lambda thing: kinds.is_dependence(3, thing), accepted, refused)
        self.accepts(lambda thing: kinds.is_dependence(0, thing), (((), ()),), (((0,), ()), ((), (0,)), ()))

    def test_sequences(self):
        self.accepts(
            lambda thing: kinds.is_sequence(3, thing),
            ((0, 1, 2), (2, 0, 1), (1, 2, 0)),
            ((), (0, 1), (0, 1, 2, 3), (0, 1, 1), (0, True, 2), (False, 1, 2), [0, 1, 2], (0, 1, 3), (0, 1, -1), None,
             (0, 1, None), (0, 1, "2"), (0, 1, (2,)), (0, 1, [2])),
        )
        self.accepts(lambda thing: kinds.is_sequence(0, thing), ((),), ((0,), [], None))
        self.assertIs(kinds.is_sequence(2, (0, True)), False)
        self.assertIs(kinds.is_sequence(10 ** 12, (0, 1)), False)

    def test_weights_and_shares(self):
        self.accepts(
            lambda thing: kinds.is_weights(2, thing),
            ((0, 0), (10 ** 60, 1)),
            ((0,), (0, 0, 0), (0, True), (False, 0), [0, 0], (0, -1), (0, None), (0, "1"), (0, (1,)), None, ()),
        )
        self.accepts(lambda thing: kinds.is_weights(0, thing), ((),), ((0,), [], None, 0))
        self.accepts(
            lambda thing: kinds.is_shares(2, thing),
            (((0, 1), (1, 2)), ((5, 1), (7, 3))),
            (((0, 1),), ((0, 1), (2, 4)), ((0, 1), (-1, 2)), ((0, 1), (0, True)), [(0, 1), (0, 1)], ((0, 1), [0, 1]),
             ((0, 1), 1), (0, 1), None, ()),
        )
        self.accepts(lambda thing: kinds.is_shares(0, thing), ((),), (((0, 1),), [], None))

    def test_any_value_is_told_of(self):
        for thing in ODD:
            for kind in (kinds.is_integer, kinds.is_number, kinds.is_word, kinds.is_quotient):
                self.assertIsInstance(kind(thing), bool)
            for kind in (kinds.is_lot, kinds.is_dependence, kinds.is_group, kinds.is_sequence, kinds.is_weights,
                         kinds.is_shares):
                for many in (0, 1, 2, 3):
                    self.assertIsInstance(kind(many, thing), bool)

    def test_example(self):
        self.assertEqual((kinds.is_quotient((2, 4)), kinds.is_sequence(2, (0, True))), (False, False))


class QuotientsTest(unittest.TestCase):

    def quotients(self):
        return [quotient_of(top, bottom) for top in range(-6, 7) for bottom in (1, 2, 3, 4, -5)]

    def told(self, quotient):
        """The fraction of a result, which is a quotient in lowest terms."""
        self.assertTrue(kinds.is_quotient(quotient), quotient)
        return Fraction(*quotient)

    def test_quotient_of(self):
        for top in range(-12, 13):
            for bottom in range(-12, 13):
                if bottom != 0:
                    self.assertEqual(self.told(quotient_of(top, bottom)), Fraction(top, bottom))
        self.assertEqual(quotient_of(0, -7), (0, 1))
        self.assertEqual(quotient_of(10 ** 59, -10 ** 58), (-10, 1))

    def test_reckoning(self):
        for one in self.quotients():
            first = Fraction(*one)
            self.assertEqual(rounded_up(one), -(-first.numerator // first.denominator))
            for another in self.quotients():
                second = Fraction(*another)
                self.assertEqual(self.told(plus(one, another)), first + second)
                self.assertEqual(self.told(minus(one, another)), first - second)
                self.assertEqual(self.told(times(one, another)), first * second)
                self.assertIs(at_most(one, another), first <= second)
                if another[0]:
                    self.assertEqual(self.told(over(one, another)), first / second)

    def test_refusals(self):
        for made, word in ((lambda: over((1, 2), (0, 1)), "another"), (lambda: quotient_of(1, 0), "bottom"),
                           (lambda: quotient_of(True, 0), "top"), (lambda: over((0, 2), (0, 1)), "one")):
            with self.assertRaises(NotUsable) as caught:
                made()
            self.assertEqual((caught.exception.word, caught.exception.at), (word, -1))

    def test_example(self):
        self.assertEqual((quotient_of(6, -4), over((1, 2), (3, 4)), rounded_up((-3, 2))), ((-3, 2), (2, 3), -1))


if __name__ == "__main__":
    unittest.main()
