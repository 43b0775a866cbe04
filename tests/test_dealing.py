import unittest

from alikeclash.dealing import dealt_ties, priced_ties
from alikeclash.errors import NotUsable
from alikeclash.matchings import heaviest_matching
from alikeclash.pieces import given_to, is_pieces, pieces_length
from alikeclash.sidewebs import end_sums, ends_of
from tests.samples import chance_of
from tests.test_sidewebs import are_apart, ends_at, large_webs, slow_ends, some_webs


class DealtTiesTest(unittest.TestCase):

    def check(self, web):
        pieces = dealt_ties(web)
        self.assertIs(is_pieces(len(web), pieces), True)
        for _, group in pieces:
            self.assertTrue(are_apart(web, group))
        for tie, (_, _, weight) in enumerate(web):
            self.assertEqual(given_to(pieces, tie), weight)
        self.assertEqual(pieces_length(pieces), max([total for _, total in end_sums(web)], default=0))
        self.assertLessEqual(len(pieces), len(web) + len(ends_of(web)))
        return pieces

    def test_small_webs(self):
        for web in some_webs(63, 200):
            self.check(web)

    def test_large_webs(self):
        for web in large_webs(630):
            self.check(web)

    def test_edges(self):
        self.assertEqual(dealt_ties(()), ())
        self.assertEqual(dealt_ties(((7, 10 ** 12, 5),)), ((5, (0,)),))
        self.assertEqual(len(self.check(((0, 0, 4), (0, 1, 4), (1, 0, 4), (1, 1, 4)))), 2)
        # The tie between ends that are not full must wait or be dealt beside the others.
        web = ((0, 0, 1), (0, 1, 3), (1, 0, 3), (1, 1, 1), (2, 2, 4))
        self.check(web)
        self.check(tuple((0, right, 10 ** 12 - right) for right in range(40)))
        self.check(tuple((left, 3, 10 ** 12) for left in range(40)))

    def test_example(self):
        self.assertEqual(pieces_length(dealt_ties(((0, 0, 2), (0, 1, 1), (1, 1, 2)))), 3)


class PricedTiesTest(unittest.TestCase):

    def slow(self, web, prices):
        price_at = dict(prices)
        told = []
        for end, price in prices:
            if price == 0:
                continue
            stretches = []
            for tie, (left, right, weight) in enumerate(web):
                own = price_at["left", left]
                if end == ("left", left):
                    stretches.append((tie, 0, min(own, weight)))
                if end == ("right", right) and own < weight:
                    stretches.append((tie, own, weight))
            told.append((end, price, tuple(part for part in stretches if part[1] < part[2])))
        return tuple(told)

    def check(self, web, prices):
        told = priced_ties(web, prices)
        self.assertEqual(told, self.slow(web, prices))
        # Each tie's own time runs just once, and at no end for longer than its price.
        runs = {tie: [] for tie in range(len(web))}
        for end, price, stretches in told:
            self.assertEqual(list(stretches), sorted(set(stretches)))
            for tie, begin, end_of in stretches:
                self.assertIn(end, ends_at(web[tie]))
                self.assertLessEqual(end_of - begin, price)
                runs[tie].append((begin, end_of))
        for tie, parts in runs.items():
            moment = 0
            for begin, end_of in sorted(parts):
                self.assertEqual(begin, moment)
                moment = end_of
            self.assertEqual(moment, web[tie][2])

    def test_prices_of_matchings(self):
        for web in list(some_webs(631, 60)) + list(large_webs(631)):
            self.check(web, heaviest_matching(web)[1])

    def test_any_prices(self):
        chance = chance_of(632)
        for web in some_webs(632, 80):
            sums = dict(end_sums(web))
            price_at = {}
            for end in slow_ends(web):
                price_at[end] = chance.choice((0, 1, sums[end], chance.randint(0, sums[end])))
            for left, right, weight in web:
                short = weight - price_at["left", left] - price_at["right", right]
                if short > 0:
                    price_at[chance.choice((("left", left), ("right", right)))] += short
            self.check(web, tuple(sorted(price_at.items())))

    def test_edges(self):
        self.assertEqual(priced_ties((), ()), ())
        web = ((3, 7, 5),)
        left, right = ("left", 3), ("right", 7)
        self.assertEqual(priced_ties(web, ((left, 5), (right, 0))), ((left, 5, ((0, 0, 5),)),))
        self.assertEqual(priced_ties(web, ((left, 0), (right, 5))), ((right, 5, ((0, 0, 5),)),))
        self.assertEqual(priced_ties(web, ((left, 9), (right, 2))), ((left, 9, ((0, 0, 5),)), (right, 2, ())))
        self.assertEqual(priced_ties(web, ((left, 2), (right, 9))), ((left, 2, ((0, 0, 2),)), (right, 9, ((0, 2, 5),))))

    def test_what_are_no_prices(self):
        web = ((0, 0, 2), (0, 1, 3), (1, 1, 2))
        ends = slow_ends(web)
        good = tuple(zip(ends, (2, 1, 0, 1)))
        priced_ties(web, good)
        wrong = [
            None, 0, (), list(good), good[:3], good + good[3:], good[::-1], tuple(zip(ends, (2, 0, 0, 1))),
            tuple(zip(ends, (1, 1, 0, 1))), tuple(zip(ends, (2, 1, 0, 0))), tuple(zip(ends, (2, True, 0, 1))),
            tuple(zip(ends, (2, 3, -1, 3))), tuple(zip(ends, (2, 1, None, 1))), (2, 1, 0, 1), tuple(ends),
            ((("left", 0), 2), (("left", True), 1)) + good[2:], tuple([list(pair) for pair in good]),
            ((("left", False), 2),) + good[1:], ((("lefts", 0), 2),) + good[1:], ((("left", 0), "2"),) + good[1:],
        ]
        for prices in wrong:
            with self.assertRaises(NotUsable, msg=prices) as caught:
                priced_ties(web, prices)
            self.assertEqual((caught.exception.word, caught.exception.at), ("prices", -1))
        with self.assertRaises(NotUsable):
            priced_ties((), good)

    def test_example(self):
        prices = ((("left", 0), 2), (("left", 1), 1), (("right", 0), 0), (("right", 1), 1))
        self.assertEqual(priced_ties(((0, 0, 2), (0, 1, 3), (1, 1, 2)), prices), (
            (("left", 0), 2, ((0, 0, 2), (1, 0, 2))), (("left", 1), 1, ((2, 0, 1),)),
            (("right", 1), 1, ((1, 2, 3), (2, 1, 2))),
        ))


if __name__ == "__main__":
    unittest.main()
