import unittest
from itertools import permutations

from alikeclash.groundclasses import Ground
from alikeclash.grounds import base_of, closed_lots, closing_of, follows, is_closed, is_ground, same_ground
from alikeclash.groundmaking import doubled_ground, free_ground, held_ground, renamed_ground, with_dependence
from alikeclash.lots import is_within, lots_of, meet_of, union_of, whole_of, without
from alikeclash.tablelines import ground_text
from tests.samples import (
    CHAINED, EMPTY, EMPTY_HELD, FREE, GROUNDS, KEPT, LARGE, LINE, ODD, ONE, WHOLE, all_lots, chance_of, closed,
    closed_ones, closing, random_ground, random_table,
)


def many_grounds():
    chance = chance_of(16)
    return list(GROUNDS) + [random_ground(chance, size, many) for size in range(5) for many in (1, 2, 4)]


class LotsTest(unittest.TestCase):

    def test_all_lots(self):
        self.assertEqual(whole_of(0), ())
        self.assertEqual(whole_of(3), (0, 1, 2))
        self.assertEqual(lots_of(0), ((),))
        self.assertEqual(lots_of(2), ((), (0,), (0, 1), (1,)))
        for size in range(9):
            self.assertEqual(lots_of(size), tuple(all_lots(size)))
            self.assertEqual(whole_of(size), tuple(range(size)))

    def test_two_lots(self):
        for size in range(4):
            for one in all_lots(size):
                for another in all_lots(size):
                    first, second = set(one), set(another)
                    self.assertEqual(meet_of(size, one, another), tuple(sorted(first & second)))
                    self.assertEqual(union_of(size, one, another), tuple(sorted(first | second)))
                    self.assertEqual(without(size, one, another), tuple(sorted(first - second)))
                    self.assertIs(is_within(size, one, another), first <= second)


class GroundsTest(unittest.TestCase):

    def test_is_ground(self):
        fine = GROUNDS + (
            LARGE, (10 ** 60, ()), (10 ** 60, (((10 ** 59,), (1, 10 ** 50)),)), (100, ()),
            (2, tuple((here, there) for here in all_lots(2) for there in all_lots(2))),
        )
        for thing in fine:
            self.assertIs(is_ground(thing), True, thing)
        wrong = (
            (True, ()), (False, ()), (-1, ()), [3, ()], (3, []), (3,), (3, (), ()), (3, (((1,), (3,)),)),
            (3, (((1,), (2,)), ((1,), (2,)))), (3, (((1,), (2,)), ((0,), (2,)))), (3, (((True,), (2,)),)),
            (3, ([(1,), (2,)],)), (3, (((1,), [2]),)), (3, (((1,), (2, 1)),)), (3, ((1,), (2,))), (3, None), (None, ()),
            ("3", ()), (3, ""), (0, (((0,), ()),)), (3, (((1,),),)), (3, (((1,), (2,), ()),)), (3, ((),)),
        )
        for thing in wrong:
            self.assertIs(is_ground(thing), False, thing)
        for thing in ODD:
            self.assertIs(is_ground(thing), thing == (3, ()) and isinstance(thing, tuple), thing)

    def test_closings(self):
        for ground in many_grounds():
            self.assertEqual(closed_lots(ground), tuple(closed_ones(ground)))
            self.assertEqual(base_of(ground), closing(ground, ()))
            for lot in all_lots(ground[0]):
                self.assertEqual(closing_of(ground, lot), closing(ground, lot))
                self.assertIs(is_closed(ground, lot), closed(ground, lot))
                for other in all_lots(ground[0]):
                    self.assertIs(follows(ground, lot, other), set(other) <= set(closing(ground, lot)))

    def test_edges(self):
        for ground in (EMPTY, EMPTY_HELD):
            self.assertEqual((base_of(ground), closed_lots(ground)), ((), ((),)))
        self.assertEqual((base_of(WHOLE), closed_lots(WHOLE)), ((0, 1), ((0, 1),)))
        self.assertEqual(closing_of(CHAINED, (0,)), (0, 1, 2))
        self.assertEqual(len(closed_lots((8, ()))), 256)
        self.assertEqual(closed_lots(LARGE), tuple(closed_ones(LARGE)))

    def test_same_ground(self):
        grounds = many_grounds()
        for ground in grounds:
            for other in grounds:
                same = ground[0] == other[0] and closed_ones(ground) == closed_ones(other)
                self.assertIs(same_ground(ground, other), same)
        self.assertIs(same_ground(KEPT, (3, (((0, 1), (2,)), ((1,), (2,))))), True)
        self.assertIs(same_ground(EMPTY, ONE), False)
        self.assertIs(same_ground(EMPTY, EMPTY_HELD), True)
        self.assertIs(same_ground((2, (((0,), (1,)),)), (2, (((0,), (0, 1)), ((0, 1), (1,))))), True)

    def test_example(self):
        found = (closing_of(KEPT, (0, 1)), closed_lots(KEPT), follows(KEPT, (2,), (1,)))
        self.assertEqual(found, ((0, 1, 2), ((), (0,), (0, 1, 2), (0, 2), (1, 2), (2,)), False))


class GroundMakingTest(unittest.TestCase):

    def test_free_ground(self):
        for size in (0, 1, 8):
            self.assertEqual(free_ground(size), (size, ()))

    def test_with_dependence(self):
        made = with_dependence(KEPT, (0,), (1, 2))
        self.assertEqual(made, (3, (((0,), (1, 2)), ((1,), (2,)))))
        self.assertEqual(with_dependence(made, (1,), (2,)), made)
        self.assertEqual(with_dependence(EMPTY, (), ()), EMPTY_HELD)
        self.assertEqual(with_dependence(FREE, (2,), ()), (3, (((2,), ()),)))

    def test_held_ground(self):
        self.assertEqual(held_ground(KEPT, (0,)), (3, (((), (0,)), ((1,), (2,)))))
        self.assertEqual(held_ground(FREE, ()), (3, (((), ()),)))
        self.assertEqual(held_ground(EMPTY, ()), EMPTY_HELD)
        self.assertEqual(held_ground(EMPTY_HELD, ()), EMPTY_HELD)
        for ground in many_grounds():
            for lot in all_lots(ground[0]):
                held = held_ground(ground, lot)
                self.assertTrue(is_ground(held))
                self.assertEqual(closed_ones(held), [part for part in closed_ones(ground) if set(lot) <= set(part)])

    def test_renamed_ground(self):
        self.assertEqual(renamed_ground(KEPT, (2, 0, 1)), (3, (((0,), (1,)),)))
        self.assertEqual(renamed_ground(EMPTY_HELD, ()), EMPTY_HELD)
        for ground in many_grounds():
            for sequence in permutations(range(ground[0])):
                renamed = renamed_ground(ground, sequence)
                self.assertTrue(is_ground(renamed))
                lots = sorted(tuple(sorted(sequence[column] for column in lot)) for lot in closed_ones(ground))
                self.assertEqual(closed_ones(renamed), lots)
                self.assertEqual(len(renamed[1]), len(ground[1]))

    def test_doubled_ground(self):
        self.assertEqual(doubled_ground((2, ()), 0), (3, (((0,), (2,)), ((2,), (0,)))))
        for ground in many_grounds():
            for column in range(ground[0]):
                doubled = doubled_ground(ground, column)
                self.assertTrue(is_ground(doubled))
                more = [lot + (ground[0],) if column in lot else lot for lot in closed_ones(ground)]
                self.assertEqual(closed_ones(doubled), sorted(more))


class GroundClassTest(unittest.TestCase):

    def test_size_of(self):
        self.assertEqual((Ground(3, ()).size_of, Ground(0, EMPTY_HELD[1]).size_of), (3, 0))

    def test_equality(self):
        grounds = many_grounds()
        for ground in grounds:
            for other in grounds:
                same = ground[0] == other[0] and closed_ones(ground) == closed_ones(other)
                self.assertIs(Ground(*ground) == Ground(*other), same)
                self.assertIs(Ground(*ground) != Ground(*other), not same)
            for thing in (ground, ground[0], None, ground_text(ground)):
                self.assertIs(Ground(*ground) == thing, False)

    def test_methods(self):
        chance = chance_of(22)
        for ground in many_grounds():
            made = Ground(*ground)
            self.assertEqual(made.closed(), tuple(closed_ones(ground)))
            self.assertEqual(made.text(), ground_text(ground))
            for lot in all_lots(ground[0]):
                self.assertEqual(made.closing(lot), closing(ground, lot))
            rows = random_table(chance, ground, 9)
            self.assertIs(made.keeps(rows), True)
        self.assertIs(Ground(*KEPT).keeps(LINE), False)
        self.assertIs(Ground(*FREE).keeps(LINE), True)
        self.assertIs(Ground(*WHOLE).keeps(((0, 0), (0, 1))), False)
        self.assertIs(Ground(*EMPTY_HELD).keeps(((),)), True)


if __name__ == "__main__":
    unittest.main()
