import unittest

from alikeclash.errors import InvalidPaper, NotUsable
from alikeclash.matchchecker import lets_matching
from alikeclash.matchings import heaviest_matching, matching_weight
from alikeclash.sidewebs import end_sums, ends_of, fullest_end, is_side_web, without_ends
from tests.samples import ODD, chance_of, subsets


def random_web(chance, lefts, rights, many, limit):
    """A web of so many ties between some of the ends."""
    pairs = sorted(chance.sample([(left, right) for left in lefts for right in rights], many))
    return tuple((left, right, chance.randint(1, limit)) for left, right in pairs)


def some_webs(number, many=40):
    """Small webs, of at most eight ties."""
    chance = chance_of(number)
    yield ()
    for _ in range(many):
        lefts = chance.sample((0, 1, 2, 5, 10 ** 12), chance.randint(1, 4))
        rights = chance.sample((0, 1, 3, 4, 9), chance.randint(1, 4))
        most = min(8, len(lefts) * len(rights))
        yield random_web(chance, lefts, rights, chance.randint(1, most), chance.choice((1, 2, 6, 10 ** 12)))


def large_webs(number):
    """Webs of forty ties."""
    chance = chance_of(number)
    for lefts, rights in ((7, 6), (10, 10), (20, 20), (2, 20), (1, 40), (40, 1), (40, 40), (5, 8)):
        for limit in (1, 3, 100, 10 ** 12):
            yield random_web(chance, range(lefts), range(0, 3 * rights, 3), 40, limit)


def slow_ends(web):
    return sorted({("left", tie[0]) for tie in web} | {("right", tie[1]) for tie in web})


def ends_at(tie):
    return ("left", tie[0]), ("right", tie[1])


def are_apart(web, group):
    """Whether no two ties of the group have a common end."""
    ends = [end for tie in group for end in ends_at(web[tie])]
    return len(ends) == len(set(ends))


def slow_matchings(web):
    return [group for group in subsets(range(len(web))) if are_apart(web, group)]


def weight(web, group):
    return sum(web[tie][2] for tie in group)


class SideWebsTest(unittest.TestCase):

    def test_kinds(self):
        for web in list(some_webs(53)) + list(large_webs(53)):
            self.assertIs(is_side_web(web), True)
        wrong = (
            [(0, 0, 1)], ((0, 0, 0),), ((0, 0, -1),), ((0, 0),), ((0, 0, 1, 1),), ((0, 0, True),), ((True, 0, 1),),
            ((0, False, 1),), ([0, 0, 1],), ((0, 0, 1), (0, 0, 2)), ((0, 0, 2), (0, 0, 1)), ((0, 1, 1), (0, 0, 1)),
            ((1, 0, 1), (0, 1, 1)), ((0, 0, 1), None), ((-1, 0, 1),), ((0, "0", 1),), (((0,), 0, 1),), (0, 0, 1), "", None,
            ((0, 0, 1), (0, 1, 0)), (((0, 0, 1),),),
        )
        for thing in wrong + tuple(thing for thing in ODD if thing not in ((), [], ((0, 0, 0),))):
            self.assertIs(is_side_web(thing), False, thing)
        for thing in ((), ((0, 0, 1),), ((0, 1, 1), (1, 0, 1)), ((3, 10 ** 12, 10 ** 12),)):
            self.assertIs(is_side_web(thing), True)

    def test_ends(self):
        for web in list(some_webs(530)) + list(large_webs(530)):
            ends = slow_ends(web)
            sums = [(end, sum(tie[2] for tie in web if end in ends_at(tie))) for end in ends]
            self.assertEqual(ends_of(web), tuple(ends))
            self.assertEqual(end_sums(web), tuple(sums))
            found = fullest_end(web)
            if web == ():
                self.assertIsNone(found)
            else:
                self.assertIn(found, sums)
                self.assertEqual(found[1], max(total for _, total in sums))

    def test_without_ends(self):
        for web in some_webs(531):
            for left in (0, 1, 5, 77):
                for right in (0, 1, 3, 10 ** 12):
                    right_web = tuple(tie for tie in web if tie[0] != left and tie[1] != right)
                    self.assertEqual(without_ends(web, left, right), right_web)
        self.assertEqual(without_ends(((0, 1, 1), (1, 0, 2), (1, 1, 3)), 0, 0), ((1, 1, 3),))

    def test_example(self):
        sums = end_sums(((0, 0, 3), (0, 1, 5), (1, 1, 3)))
        self.assertEqual(sums, ((("left", 0), 8), (("left", 1), 3), (("right", 0), 3), (("right", 1), 8)))


class MatchingsTest(unittest.TestCase):

    def check(self, web, told):
        """Judge a matching and prices by the document's sentences; return the matching's weight."""
        self.assertEqual((type(told), len(told)), (tuple, 2))
        matching, prices = told
        self.assertIs(type(matching), tuple)
        self.assertEqual(sorted(set(matching)), list(matching))
        self.assertTrue(are_apart(web, matching))
        self.assertEqual([end for end, _ in prices], slow_ends(web))
        price_at = dict(prices)
        for price in price_at.values():
            self.assertIs(type(price), int)
            self.assertGreaterEqual(price, 0)
        for tie in web:
            left, right = ends_at(tie)
            self.assertGreaterEqual(price_at[left] + price_at[right], tie[2])
        self.assertEqual(sum(price_at.values()), weight(web, matching))
        self.assertEqual(lets_matching(web, told), weight(web, matching))
        return weight(web, matching)

    def test_small_webs(self):
        for web in some_webs(54, 150):
            best = max(weight(web, group) for group in slow_matchings(web))
            self.assertEqual(self.check(web, heaviest_matching(web)), best)

    def test_large_webs(self):
        for web in large_webs(540):
            self.check(web, heaviest_matching(web))

    def test_weights(self):
        for web in some_webs(541):
            for group in slow_matchings(web):
                self.assertEqual(matching_weight(web, group), weight(web, group))

    def test_what_is_no_matching(self):
        web = ((0, 0, 3), (0, 1, 5), (1, 1, 3))
        for thing in (None, 0, [0], (0, 1), (1, 2), (2, 0), (0, 0), (3,), (-1,), (True,), (False, 2), ("0",), (None,), "0"):
            with self.assertRaises(NotUsable, msg=thing) as caught:
                matching_weight(web, thing)
            self.assertEqual((caught.exception.word, caught.exception.at), ("matching", -1))
        self.assertEqual(matching_weight(web, (0, 2)), 6)
        for group in subsets(range(3)):
            if not are_apart(web, group):
                with self.assertRaises(NotUsable):
                    matching_weight(web, group)

    def test_edges(self):
        self.assertEqual(heaviest_matching(()), ((), ()))
        self.assertEqual(matching_weight((), ()), 0)
        self.assertEqual(self.check(((7, 0, 5),), heaviest_matching(((7, 0, 5),))), 5)
        # Two light ties are better than a heavy one, if they are heavier together.
        for middle, best in ((4, 6), (5, 6), (6, 6), (7, 7)):
            web = ((0, 0, 3), (0, 1, middle), (1, 1, 3))
            self.assertEqual(self.check(web, heaviest_matching(web)), best)


class CheckerTest(unittest.TestCase):
    WEB = ((0, 0, 3), (0, 1, 5), (1, 1, 3))
    PRICES = ((("left", 0), 3), (("left", 1), 1), (("right", 0), 0), (("right", 1), 2))

    def fault(self, web, thing):
        with self.assertRaises(InvalidPaper, msg=thing) as caught:
            lets_matching(web, thing)
        self.assertIs(type(caught.exception.at), int)
        return caught.exception.word, caught.exception.at

    def priced(self, *prices):
        return tuple((end, price) for (end, _), price in zip(self.PRICES, prices))

    def test_accepted(self):
        self.assertEqual(lets_matching(self.WEB, ((0, 2), self.PRICES)), 6)
        self.assertEqual(lets_matching(self.WEB, ((0, 2), self.priced(3, 0, 0, 3))), 6)
        self.assertEqual(lets_matching((), ((), ())), 0)

    def test_shape(self):
        for thing in (None, (), ((0, 2),), [(0, 2), self.PRICES], ((0, 2), list(self.PRICES)), ([0, 2], self.PRICES),
                      ((0, 2), self.PRICES, ()), (None, ()), ((), None), ("", ()), 0, "ab", ((), 0)):
            self.assertEqual(self.fault(self.WEB, thing), ("shape", -1), thing)
            self.assertEqual(self.fault((), thing), ("shape", -1), thing)

    def test_ties(self):
        for matching, told in (
            ((3,), ("tie", 0)), ((-1,), ("tie", 0)), ((True,), ("tie", 0)), (("0",), ("tie", 0)), ((0, 3), ("tie", 1)),
            ((2, 0), ("tie", 1)), ((0, 0), ("tie", 1)), ((0, 1), ("end", 1)), ((1, 2), ("end", 1)), ((0, 1, 1), ("end", 1)),
            ((0, 2, 2), ("tie", 2)), ((0, None), ("tie", 1)), (((0,),), ("tie", 0)), ((0, 1, 9), ("end", 1)),
            ((0, True), ("tie", 1)), ((1, 0), ("tie", 1)),
        ):
            for prices in (self.PRICES, (), (None,)):
                self.assertEqual(self.fault(self.WEB, (matching, prices)), told, matching)
        self.assertEqual(self.fault((), ((0,), ())), ("tie", 0))

    def test_prices(self):
        for k in range(4):
            end, price = self.PRICES[k]
            other = {"left": "right", "right": "left"}[end[0]]
            for wrong in (
                None, end, (end,), [end, price], (end, -1), (end, True), (end, None), (end, "1"), (end, price, 0),
                ((end[0], end[1] + 2), price), ((other, end[1]), price), (list(end), price), ((end[0], bool(end[1])), price),
                (end[:1], price), (end + (0,), price), (price, end),
            ):
                prices = self.PRICES[:k] + (wrong,) + self.PRICES[k + 1:]
                self.assertEqual(self.fault(self.WEB, ((0, 2), prices)), ("price", k), wrong)
                self.assertEqual(self.fault(self.WEB, ((0, 2), prices[:k + 1] + (None,) * 9)), ("price", k), wrong)
            self.assertEqual(self.fault(self.WEB, ((0, 2), self.PRICES[:k])), ("price", k))
        self.assertEqual(self.fault(self.WEB, ((0, 2), self.PRICES + (self.PRICES[3],))), ("price", 4))
        self.assertEqual(self.fault(self.WEB, ((0, 2), self.PRICES[::-1])), ("price", 0))
        self.assertEqual(self.fault((), ((), self.PRICES)), ("price", 0))

    def test_low_and_sum(self):
        for prices, told in (
            ((2, 1, 0, 2), ("low", 0)), ((3, 1, 0, 1), ("low", 1)), ((3, 0, 0, 2), ("low", 2)), ((0, 0, 0, 0), ("low", 0)),
            ((5, 0, 0, 0), ("low", 2)), ((3, 1, 0, 3), ("sum", -1)), ((4, 1, 0, 2), ("sum", -1)), ((3, 0, 0, 3), None),
        ):
            if told is not None:
                self.assertEqual(self.fault(self.WEB, ((0, 2), self.priced(*prices))), told)
        for matching in ((), (0,), (1,), (2,)):
            self.assertEqual(self.fault(self.WEB, (matching, self.PRICES)), ("sum", -1))

    def test_bent_papers(self):
        """What is accepted is just what the document tells."""
        for web in some_webs(55, 25):
            matching, prices = heaviest_matching(web)
            for other in slow_matchings(web):
                if weight(web, other) == weight(web, matching):
                    self.assertEqual(lets_matching(web, (other, prices)), weight(web, other))
                else:
                    self.assertEqual(self.fault(web, (other, prices)), ("sum", -1))
            for k, (end, price) in enumerate(prices):
                raised = prices[:k] + ((end, price + 1),) + prices[k + 1:]
                self.assertEqual(self.fault(web, (matching, raised)), ("sum", -1))
                if price:
                    lowered = prices[:k] + ((end, price - 1),) + prices[k + 1:]
                    told = dict(lowered)
                    low = [at for at, tie in enumerate(web) if sum(told[part] for part in ends_at(tie)) < tie[2]]
                    self.assertEqual(self.fault(web, (matching, lowered)), ("low", low[0]) if low else ("sum", -1))

    def test_web_comes_first(self):
        for web in (None, [(0, 0, 1)], ((0, 0, 0),)):
            with self.assertRaises(NotUsable) as caught:
                lets_matching(web, None)
            self.assertEqual((caught.exception.word, caught.exception.at), ("web", -1))

    def test_example(self):
        self.assertEqual(lets_matching(((0, 0, 2),), ((0,), ((("left", 0), 2), (("right", 0), 0)))), 2)


if __name__ == "__main__":
    unittest.main()
