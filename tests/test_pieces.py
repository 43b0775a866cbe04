import unittest

from alikeclash.dealing import dealt_ties
from alikeclash.pieces import cut_pieces, given_to, is_pieces, one_behind, pieces_length, side_by_side
from tests.samples import ODD, chance_of
from tests.test_sidewebs import some_webs

PLAN = ((1, (0, 2)), (2, (0, 3)), (1, (1, 3)))


def random_pieces(chance, rows, many, limit=4):
    """Pieces with some of the rows."""
    pieces = []
    for _ in range(many):
        group = chance.sample(rows, chance.randint(1, min(3, len(rows))))
        pieces.append((chance.randint(1, limit), tuple(sorted(group))))
    return tuple(pieces)


def moments(pieces):
    """The groups that stand from each moment to the next one."""
    return [group for length, group in pieces for _ in range(length)]


def ends_in(pieces):
    total, ends = 0, []
    for length, _ in pieces:
        total += length
        ends.append(total)
    return ends


def some_pieces(number):
    chance = chance_of(number)
    yield ()
    for many in (1, 1, 2, 3, 5, 8, 20):
        for _ in range(5):
            yield random_pieces(chance, (0, 1, 2, 3, 4, 9), many)


class KindsTest(unittest.TestCase):

    def test_pieces(self):
        for many, thing in (
            (0, ()), (4, ()), (4, PLAN), (5, PLAN), (1, ((1, (0,)), (1, (0,)))), (10 ** 12, ((10 ** 60, (10 ** 12 - 1,)),)),
            (3, ((7, (0, 1, 2)),)),
        ):
            self.assertIs(is_pieces(many, thing), True, thing)
        for many, thing in (
            (3, PLAN), (4, list(PLAN)), (4, None), (4, PLAN[0]), (4, ((0, (0,)),)), (4, ((-1, (0,)),)), (4, ((True, (0,)),)),
            (4, ((1, ()),)), (4, ((1, (0, 0)),)), (4, ((1, (1, 0)),)), (4, ((1, (True,)),)), (4, ((1, [0]),)), (4, ([1, (0,)],)),
            (4, ((1, (4,)),)), (4, ((1, (0,), 0),)), (4, ((1,),)), (4, (((1, 1), (0,)),)), (4, ((1, 0),)), (4, ((1, (-1,)),)),
            (4, (("1", (0,)),)), (4, ((1, "0"),)), (0, ((1, (0,)),)), (4, ((1, (0, None)),)), (4, ((None, (0,)),)), (4, (None,)),
        ):
            self.assertIs(is_pieces(many, thing), False, thing)
        for thing in ODD:
            self.assertIs(is_pieces(4, thing), thing == (), thing)

    def test_lengths(self):
        for pieces in some_pieces(64):
            stands = moments(pieces)
            self.assertEqual(pieces_length(pieces), len(stands))
            for row in (0, 1, 2, 3, 4, 9, 10, 10 ** 12):
                self.assertEqual(given_to(pieces, row), len([group for group in stands if row in group]))
        self.assertEqual(pieces_length(((10 ** 12, (0,)),) * 100), 10 ** 14)
        self.assertEqual((pieces_length(()), given_to((), 0)), (0, 0))
        self.assertEqual((pieces_length(PLAN), given_to(PLAN, 3), given_to(PLAN, 7)), (4, 3, 0))


class JoinsTest(unittest.TestCase):

    def test_side_by_side(self):
        chance = chance_of(640)
        for _ in range(60):
            rows = chance.sample(range(12), 12)
            one = random_pieces(chance, rows[:6], chance.randint(0, 6))
            other = random_pieces(chance, rows[6:], chance.randint(0, 6))
            joint = side_by_side(one, other)
            self.assertIs(is_pieces(12, joint), True)
            self.assertEqual(ends_in(joint), sorted(set(ends_in(one)) | set(ends_in(other))))
            first, second = moments(one), moments(other)
            longest = max(len(first), len(second))
            first += [()] * (longest - len(first))
            second += [()] * (longest - len(second))
            self.assertEqual(moments(joint), [tuple(sorted(a + b)) for a, b in zip(first, second)])
            self.assertEqual(pieces_length(joint), longest)
            self.assertEqual(moments(side_by_side(other, one)), moments(joint))
            for row in range(12):
                self.assertEqual(given_to(joint, row), given_to(one, row) + given_to(other, row))

    def test_large_lengths(self):
        most = 10 ** 12
        one, other = ((most, (0,)), (1, (1,))), ((most - 1, (2,)), (1, (3,)), (most, (2,)))
        self.assertEqual(side_by_side(one, other), (
            (most - 1, (0, 2)), (1, (0, 3)), (1, (1, 2)), (most - 1, (2,)),
        ))

    def test_sides_that_are_empty(self):
        for pieces in some_pieces(641):
            self.assertEqual(side_by_side(pieces, ()), pieces)
            self.assertEqual(side_by_side((), pieces), pieces)
            self.assertEqual(one_behind(pieces, ()), pieces)
            self.assertEqual(one_behind((), pieces), pieces)
        # Neighbours with one group stay apart where a piece ends.
        twice = ((1, (0,)), (1, (0,)))
        self.assertEqual(side_by_side(twice, ((2, (1,)),)), ((1, (0, 1)), (1, (0, 1))))
        self.assertEqual(side_by_side(twice, ()), twice)

    def test_one_behind(self):
        chance = chance_of(642)
        for _ in range(30):
            one, other = [random_pieces(chance, range(6), chance.randint(0, 6)) for _ in range(2)]
            joint = one_behind(one, other)
            self.assertEqual(joint, one + other)
            self.assertIs(type(joint), tuple)
            self.assertEqual(pieces_length(joint), pieces_length(one) + pieces_length(other))
            for row in range(6):
                self.assertEqual(given_to(joint, row), given_to(one, row) + given_to(other, row))
        self.assertEqual(one_behind(PLAN, PLAN), PLAN + PLAN)

    def test_cut(self):
        for pieces in some_pieces(643):
            stands, total = moments(pieces), pieces_length(pieces)
            for here in range(0, total + 3):
                for there in range(here, total + 3):
                    cut = cut_pieces(pieces, here, there)
                    self.assertIs(is_pieces(10, cut), True)
                    self.assertEqual(moments(cut), stands[here:there])
                    inner = {end - here for end in ends_in(pieces) if here < end < there}
                    inner |= {min(there, total) - here} if here < min(there, total) else set()
                    self.assertEqual(ends_in(cut), sorted(inner))
            for moment in (0, 1, total // 2, total, total + 5):
                begin, rest = cut_pieces(pieces, 0, moment), cut_pieces(pieces, moment, 10 ** 12)
                self.assertEqual(moments(one_behind(begin, rest)), stands)
                for row in range(10):
                    self.assertEqual(given_to(one_behind(begin, rest), row), given_to(pieces, row))

    def test_cut_at_ends(self):
        self.assertEqual(cut_pieces(PLAN, 0, 4), PLAN)
        self.assertEqual(cut_pieces(PLAN, 0, 10 ** 12), PLAN)
        self.assertEqual(cut_pieces(PLAN, 1, 3), PLAN[1:2])
        self.assertEqual(cut_pieces(PLAN, 2, 4), ((1, (0, 3)), (1, (1, 3))))
        for moment in range(7):
            self.assertEqual(cut_pieces(PLAN, moment, moment), ())
        self.assertEqual((cut_pieces(PLAN, 4, 9), cut_pieces((), 0, 5)), ((), ()))
        self.assertEqual(cut_pieces(((10 ** 12, (5,)),), 3, 10 ** 12 - 1), ((10 ** 12 - 4, (5,)),))

    def test_dealt_pieces(self):
        for web in some_webs(644, 20):
            pieces = dealt_ties(web)
            half = pieces_length(pieces) // 2
            joint = one_behind(cut_pieces(pieces, 0, half), cut_pieces(pieces, half, pieces_length(pieces)))
            for tie, (_, _, weight) in enumerate(web):
                self.assertEqual(given_to(joint, tie), weight)

    def test_example(self):
        self.assertEqual(
            side_by_side(((2, (0,)), (1, (1,))), ((1, (2,)), (3, (3,)))),
            ((1, (0, 2)), (1, (0, 3)), (1, (1, 3)), (1, (3,))),
        )


if __name__ == "__main__":
    unittest.main()
