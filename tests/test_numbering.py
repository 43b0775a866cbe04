import unittest
from math import comb

from alikeclash.chains import exchanged
from alikeclash.counting import many_chains, many_fits, many_turned
from alikeclash.errors import NotUsable
from alikeclash.finding import chain_of
from alikeclash.numbering import chain_at, number_of
from alikeclash.plains import is_plain
from alikeclash.trusting import may_trust
from tests.samples import all_chains, chain_rules, chance_of, plain, random_chain


def free(size):
    return size, ()


def plains(size):
    """All plain chains of the ground of the size, ascending."""
    return sorted(chain for chain in all_chains(free(size)) if plain(chain))


class CountingTest(unittest.TestCase):

    def test_formulas(self):
        p, q = [1], [1]
        for n in range(1, 9):
            p.append(1 + sum(comb(n, k) * (3 ** k - 2 * 2 ** k + 2) * p[n - k] for k in range(1, n + 1)))
            q.append(1 + sum(comb(n, k) * q[n - k] for k in range(1, n + 1)))
        self.assertEqual([many_chains(n) for n in range(9)], p)
        self.assertEqual([many_fits(n) for n in range(9)], q)
        self.assertEqual(p[:7], [1, 2, 8, 56, 524, 6032, 83228])
        self.assertEqual(q[:7], [1, 2, 6, 26, 150, 1082, 9366])

    def test_counted(self):
        for size in range(5):
            rules = chain_rules(free(size))
            self.assertEqual(many_chains(size), len(rules))
            self.assertEqual(many_fits(size), sum(may_trust(free(size), rule, "fit") for rule in rules))
            for w in (True, False):
                turned = [chain for chain in rules.values() if chain and chain[0][-1] is w]
                self.assertEqual(many_turned(size, w), len(turned))

    def test_turned(self):
        for size in range(1, 7):
            self.assertEqual(many_turned(size, True) + many_turned(size, False), many_chains(size))
            for many in (0, many_chains(size) // 3, many_chains(size) - 1):
                other = exchanged(free(size), chain_at(size, many))
                self.assertEqual(chain_at(size, number_of(size, other)), other)
        self.assertEqual((many_turned(0, True), many_turned(0, False)), (0, 0))

    def test_example(self):
        self.assertEqual((many_chains(3), many_fits(3), many_turned(3, True), many_chains(0)), (56, 26, 28, 1))


class NumberingTest(unittest.TestCase):

    def test_all(self):
        for size in range(5):
            chains = plains(size)
            self.assertEqual(len(chains), many_chains(size))
            for many, chain in enumerate(chains):
                self.assertEqual(number_of(size, chain), many)
                if size < 4 or many % 5 == 0:
                    self.assertEqual(chain_at(size, many), chain)

    def test_large(self):
        chance = chance_of(40)
        for size in (5, 6):
            last = many_chains(size) - 1
            numbers = sorted({0, 1, last - 1, last} | {chance.randint(0, last) for _ in range(20)})
            chains = [chain_at(size, many) for many in numbers]
            self.assertEqual(chains, sorted(chains))
            self.assertEqual([number_of(size, chain) for chain in chains], numbers)
            self.assertTrue(all(is_plain(free(size), chain) for chain in chains))
            self.assertEqual(chains[0], (("end", False),))
            self.assertEqual(chains[1], (("end", True),))
            for many in numbers[:6] + numbers[-6:-1]:
                self.assertLess(chain_at(size, many), chain_at(size, many + 1))
                self.assertEqual(number_of(size, chain_at(size, many + 1)), many + 1)

    def wrong(self, word, call):
        with self.assertRaises(NotUsable) as caught:
            call()
        self.assertEqual((caught.exception.word, caught.exception.at), (word, -1))

    def test_numbers_beyond(self):
        for size in range(7):
            for many in (many_chains(size), many_chains(size) + 1, 10 ** 12, -1, True, False, None, "0", (0,)):
                self.wrong("many", lambda: chain_at(size, many))
        self.assertEqual(chain_at(0, 0), ())
        self.assertEqual(chain_at(1, 1), (("end", True),))

    def test_chains_that_are_not_plain(self):
        chance = chance_of(400)
        found = 0
        for size in (2, 3, 4, 5):
            for _ in range(30):
                chain = random_chain(chance, free(size))
                if plain(chain):
                    self.assertEqual(chain_at(size, number_of(size, chain)), chain)
                else:
                    found += 1
                    self.wrong("chain", lambda: number_of(size, chain))
        self.assertGreater(found, 9)
        self.assertEqual(number_of(0, ()), 0)
        for chain in ((), (("end", 1),), (("one", (0,), True),), (("one", (0,), False), ("end", False))):
            self.wrong("chain", lambda: number_of(2, chain))
        self.wrong("chain", lambda: number_of(0, (("end", True),)))
        # A chain of a ground with dependences need not be one of the ground without.
        chain = chain_of((3, (((1,), (2,)),)), ((0,),))
        self.assertEqual(chain, (("one", (0,), False), ("one", (0, 2), True), ("end", False)))
        self.assertEqual(chain_at(3, number_of(3, chain)), chain)
        self.wrong("chain", lambda: number_of(3, (("two", (0,), (1, 2), False), ("end", True))))

    def test_example(self):
        self.assertEqual(chain_at(2, 2), (("one", (0,), False), ("end", True)))
        self.assertEqual(number_of(2, (("one", (1,), False), ("end", True))), 4)


if __name__ == "__main__":
    unittest.main()
