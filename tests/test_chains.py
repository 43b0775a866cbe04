import unittest
from itertools import combinations

from alikeclash.chainchecker import is_chain, lets_chain
from alikeclash.chains import chain_rule, chain_says, decides_at, exchanged, lets_chain_of, states_of
from alikeclash.errors import InvalidPaper, NotUsable, Refused
from alikeclash.finding import chain_of, has_chain, next_step
from alikeclash.plains import is_plain, plain_of
from alikeclash.rules import opposite
from tests.samples import (
    BASED, CHAINED, DAYS, EMPTY, EMPTY_HELD, FREE, GROUNDS, KEPT, LARGE, LESSON, MUX, ODD, ONE, PAIRS, WHOLE, WIDE,
    all_chains, all_rules, chance_of, closing, holds, is_triple, least, meet, open_ones, plain, random_chain,
    random_ground, random_rule, said_by, steps_from,
)

L = (("two", (0,), (1,), False), ("end", True))
C = (("one", (0,), False), ("end", False))
SMALL = (
    EMPTY, EMPTY_HELD, ONE, WHOLE, (2, ()), (2, (((0,), (1,)),)), FREE, KEPT, BASED, (3, (((), (1,)),)),
    (3, (((0, 1), (2,)),)), (3, (((0,), (1,)), ((1,), (0,)))),
)


def some_chains(number, many=12):
    chance = chance_of(number)
    grounds = list(GROUNDS) + [random_ground(chance, size, deps) for size in (2, 4, 5) for deps in (0, 1, 3)]
    for ground in grounds + [LARGE, WIDE]:
        for _ in range(many):
            yield ground, random_chain(chance, ground)


class CheckerTest(unittest.TestCase):

    def refused(self, ground, thing):
        self.assertIs(is_chain(ground, thing), False, thing)
        with self.assertRaises(InvalidPaper, msg=thing) as caught:
            lets_chain(ground, thing)
        self.assertNotIsInstance(caught.exception.at, bool)
        return caught.exception.word, caught.exception.at

    def accepted(self, ground, thing):
        self.assertIs(is_chain(ground, thing), True)
        self.assertEqual(lets_chain(ground, thing), len([step for step in thing if step[0] == "two"]))

    def test_chains(self):
        for ground in SMALL:
            for chain in all_chains(ground):
                self.accepted(ground, chain)
        for ground, chain in some_chains(33):
            self.accepted(ground, chain)

    def test_no_other_steps(self):
        """Just the steps that a chain may take are accepted at each state."""
        for ground in SMALL:
            lots = [part for many in range(ground[0] + 1) for part in combinations(range(ground[0]), many)]
            steps = [("one", lot, True) for lot in lots] + [("end", False)]
            steps += [("two", lot, other, False) for lot in lots for other in lots]
            for chain in all_chains(ground)[::3]:
                ahead = chain[:-1] if chain and chain[-1][0] == "end" else chain
                state = states_of(ground, chain)[len(ahead)]
                fine = dict(steps_from(ground, state)) if len(state) < ground[0] else {}
                for step in steps:
                    if step not in fine:
                        word = "end" if len(state) == ground[0] else "lot"
                        self.assertEqual(self.refused(ground, ahead + (step,)), (word, len(ahead)))
                    elif step[0] == "end" or len(fine[step]) == ground[0]:
                        self.accepted(ground, ahead + (step,))
                    else:
                        self.assertEqual(self.refused(ground, ahead + (step,)), ("open", -1))

    def test_shape(self):
        for thing in (None, 0, True, "", "end", [], [("end", True)], {}):
            self.assertEqual(self.refused(FREE, thing), ("shape", -1))
            self.assertEqual(self.refused(WHOLE, thing), ("shape", -1))

    def test_steps(self):
        wrong = (
            None, 0, "end", (), [], ["end", True], ("end",), ("end", 1), ("end", 0), ("end", None), ("end", True, True),
            ("End", True), (True, "end"), ("one", (0,)), ("one", (0,), 1), ("one", [0], True), ("one", (3,), True),
            ("one", (True,), True), ("one", 0, True), ("one", (0,), (1,), True), ("one", (1, 0), True),
            ("two", (0,), True), ("two", (0,), (1,)), ("two", (0,), (1,), 0), ("two", (0,), [1], True),
            ("two", (0,), (3,), True), ("two", (0,), (1,), (2,), True), ("two", (False,), (1,), True), ("three", (0,), True),
            (["end"], True), (("end",), True), (None, True), ("end", [True]),
        )
        for step in wrong:
            self.assertEqual(self.refused(FREE, (step,)), ("step", 0), step)
            self.assertEqual(self.refused(FREE, (("one", (0,), True), step, None)), ("step", 1), step)
            self.assertEqual(self.refused(FREE, (("end", True), step)), ("end", 1), step)
        for thing in ODD:
            if isinstance(thing, tuple) and thing:
                self.assertEqual(self.refused(FREE, thing)[0], "step")

    def test_lots(self):
        wrong = (
            ("one", (), True), ("one", (0, 1, 2), True), ("two", (1,), (0,), True), ("two", (0,), (0,), True),
            ("two", (), (0,), True), ("two", (0, 1), (0, 2), True), ("two", (0,), (0, 1), True),
            ("two", (0,), (0, 1, 2), True),
        )
        for step in wrong:
            self.assertEqual(self.refused(FREE, (step, None)), ("lot", 0), step)
        self.assertEqual(self.refused(KEPT, (("one", (1,), True),)), ("lot", 0))
        self.assertEqual(self.refused(KEPT, (("two", (0,), (1,), True),)), ("lot", 0))
        self.assertEqual(self.refused(FREE, (("one", (0,), True), ("two", (0,), (1,), True))), ("lot", 1))
        self.accepted(FREE, (("one", (0,), True), ("two", (0, 1), (0, 2), True)))

    def test_stops(self):
        self.assertEqual(self.refused(FREE, ()), ("open", -1))
        self.assertEqual(self.refused(FREE, (("one", (0,), True),)), ("open", -1))
        self.assertEqual(self.refused(FREE, L[:1]), ("open", -1))
        self.assertEqual(self.refused(FREE, L + (("end", True),)), ("end", 2))
        self.assertEqual(self.refused(FREE, (("two", (0, 1), (2,), True), ("end", True))), ("end", 1))
        self.accepted(FREE, (("two", (0, 1), (2,), True),))
        self.accepted(KEPT, (("two", (0,), (1, 2), True),))
        for ground in (EMPTY, EMPTY_HELD, WHOLE):
            self.accepted(ground, ())
            for step in (("end", True), None, ("one", (), True)):
                self.assertEqual(self.refused(ground, (step,)), ("end", 0))
        self.accepted(ONE, (("end", False),))

    def test_example(self):
        self.assertEqual(lets_chain(FREE, L), 1)
        self.assertEqual(self.refused(FREE, (("one", (0,), True), ("one", (1,), True))), ("lot", 1))


class ChainsTest(unittest.TestCase):

    def test_states(self):
        for ground, chain in some_chains(34):
            state = closing(ground, ())
            states = [state]
            for step in chain:
                if step[0] != "end":
                    state = dict(steps_from(ground, state))[step]
                states.append(state)
            self.assertEqual(states_of(ground, chain), tuple(states))
        for ground in (EMPTY, EMPTY_HELD, WHOLE):
            self.assertEqual(states_of(ground, ()), (closing(ground, ()),))

    def test_words(self):
        for ground, chain in some_chains(340):
            yes = []
            for lot in open_ones(ground):
                word, k = said_by(chain, lot)
                self.assertIs(chain_says(ground, chain, lot), word)
                self.assertEqual(decides_at(ground, chain, lot), k)
                if word:
                    yes.append(lot)
            self.assertEqual(chain_rule(ground, chain), tuple(yes))
        self.assertEqual(chain_rule(WHOLE, ()), ())

    def test_exchanged(self):
        for ground, chain in some_chains(341):
            other = exchanged(ground, chain)
            self.assertEqual(other, tuple(step[:-1] + (not step[-1],) for step in chain))
            self.assertIs(is_chain(ground, other), True)
            self.assertEqual(chain_rule(ground, other), opposite(ground, chain_rule(ground, chain)))
            self.assertIs(is_plain(ground, other), is_plain(ground, chain))

    def test_chains_of_rules(self):
        chance = chance_of(342)
        for ground, chain in some_chains(343):
            rule = chain_rule(ground, chain)
            twos = len([step for step in chain if step[0] == "two"])
            self.assertEqual(lets_chain_of(ground, rule, chain), twos)
            other = random_rule(chance, ground)
            unlike = [lot for lot in open_ones(ground) if (lot in rule) != (lot in other)]
            if unlike:
                with self.assertRaises(InvalidPaper) as caught:
                    lets_chain_of(ground, other, chain)
                self.assertEqual((caught.exception.word, caught.exception.at), ("said", unlike[0]))
        for thing, told in (((), ("open", -1)), ([], ("shape", -1)), ((None,), ("step", 0)), (L * 2, ("end", 2))):
            with self.assertRaises(InvalidPaper) as caught:
                lets_chain_of(FREE, PAIRS, thing)
            self.assertEqual((caught.exception.word, caught.exception.at), told)
        self.assertEqual(lets_chain_of(WHOLE, (), ()), 0)

    def test_example(self):
        found = states_of(FREE, L), chain_says(FREE, L, (2,)), decides_at(FREE, L, (0, 1))
        self.assertEqual(found, (((), (0, 1), (0, 1)), False, 1))
        self.assertEqual(lets_chain_of(FREE, LESSON, L), 1)
        self.assertEqual(lets_chain_of(FREE, DAYS, (("one", (0,), False), ("two", (0, 1), (0, 2), False))), 1)


class FindingTest(unittest.TestCase):

    def triple_of(self, ground, rule):
        with self.assertRaises(Refused) as caught:
            chain_of(ground, rule)
        return caught.exception.triple

    def test_all_rules_of_small_grounds(self):
        for ground in SMALL:
            told, twos = {}, {}
            for chain in all_chains(ground):
                rule = tuple(lot for lot in open_ones(ground) if said_by(chain, lot)[0])
                told.setdefault(rule, []).append(chain)
                twos.setdefault(rule, set()).add(tuple(step[:3] for step in chain if step[0] == "two"))
            for rule in all_rules(ground):
                self.assertIs(has_chain(ground, rule), rule in told)
                if rule in told:
                    found, = [chain for chain in told[rule] if plain(chain)]
                    self.assertEqual(chain_of(ground, rule), found)
                    self.assertEqual(len(twos[rule]), 1)
                    for chain in told[rule][:9]:
                        self.assertIs(is_plain(ground, chain), chain == found)
                        self.assertEqual(plain_of(ground, chain), found)
                else:
                    self.assertTrue(is_triple(ground, rule, self.triple_of(ground, rule)))

    def test_never_both(self):
        for ground in ((2, ()), FREE, KEPT, BASED):
            lots = open_ones(ground)
            for rule in all_rules(ground):
                triples = [
                    (form, a, b, c) for form in ("three", "two") for a in lots for b in lots for c in lots
                    if is_triple(ground, rule, (form, a, b, c))
                ]
                self.assertIs(has_chain(ground, rule), not triples)

    def test_large_grounds(self):
        chance = chance_of(35)
        refused = 0
        for ground in GROUNDS + (LARGE, WIDE, random_ground(chance, 8, 16), random_ground(chance, 6, 3)):
            for _ in range(12):
                rule = random_rule(chance, ground)
                if has_chain(ground, rule):
                    self.assertEqual(chain_rule(ground, chain_of(ground, rule)), rule)
                else:
                    refused += 1
                    self.assertTrue(is_triple(ground, rule, self.triple_of(ground, rule)))
        self.assertGreater(refused, 20)

    def test_rules_that_nearly_have_chains(self):
        chance = chance_of(350)
        for ground, chain in some_chains(351, 6):
            rule = chain_rule(ground, chain)
            self.assertTrue(is_plain(ground, chain_of(ground, rule)))
            for lot in chance.sample(open_ones(ground), min(3, len(open_ones(ground)))):
                other = tuple(sorted(set(rule) ^ {lot}))
                try:
                    self.assertEqual(chain_rule(ground, chain_of(ground, other)), other)
                    self.assertIs(has_chain(ground, other), True)
                except Refused as refused:
                    self.assertIs(has_chain(ground, other), False)
                    self.assertTrue(is_triple(ground, other, refused.triple))

    def test_next_step(self):
        for ground in (KEPT, BASED, (3, (((0, 1), (2,)),))):
            for rule in all_rules(ground):
                self.steps(ground, rule, open_ones(ground))
        for rule in all_rules(FREE):
            self.steps(FREE, rule, open_ones(FREE))
        chance = chance_of(352)
        for ground in (CHAINED, LARGE, WIDE):
            for _ in range(4):
                rule = random_rule(chance, ground)
                self.steps(ground, rule, chance.sample(open_ones(ground), min(6, len(open_ones(ground)))))

    def steps(self, ground, rule, lots):
        for lot in lots:
            self.assertEqual(next_step(ground, rule, lot), self.slow_step(ground, rule, lot))

    def slow_step(self, ground, rule, lot):
        word = lot in rule
        lots = open_ones(ground)
        turned = sorted(least([other for other in lots if holds(other, lot) and (other in rule) != word]))
        if not turned:
            return "end", word
        if len(turned) == 1:
            return "one", turned[0], word
        if len(turned) > 2:
            return None
        x, y = turned
        if meet(x, y) != lot:
            return "one", meet(x, y), word
        if all((other in rule) != word for other in lots if holds(other, x) != holds(other, y)):
            return "two", x, y, word
        return None

    def test_always_and_never(self):
        for ground in GROUNDS + (LARGE, WIDE):
            whole = len(closing(ground, ())) == ground[0]
            self.assertEqual(chain_of(ground, ()), () if whole else (("end", False),))
            self.assertEqual(chain_of(ground, tuple(open_ones(ground))), () if whole else (("end", True),))

    def test_steps_where_there_is_no_chain(self):
        self.assertIsNone(next_step(FREE, PAIRS, ()))
        self.assertEqual(next_step(FREE, MUX, (0, 1)), ("end", False))

    def test_refusal_comes_behind_all_parameters(self):
        with self.assertRaises(NotUsable) as caught:
            chain_of(FREE, PAIRS + ((0,),))
        self.assertEqual(caught.exception.word, "rule")

    def test_example(self):
        self.assertEqual(chain_of(FREE, LESSON), L)
        self.assertEqual(chain_of(FREE, DAYS), (("one", (0,), False), ("two", (0, 1), (0, 2), False)))
        self.assertEqual(self.triple_of(FREE, PAIRS), ("three", (0, 1), (0, 2), (1, 2)))
        self.assertTrue(is_triple(FREE, MUX, self.triple_of(FREE, MUX)))
        steps = next_step(FREE, LESSON, ()), next_step(FREE, PAIRS, ()), next_step(FREE, PAIRS, (0,))
        self.assertEqual(steps, (("two", (0,), (1,), False), None, ("two", (0, 1), (0, 2), False)))


class PlainsTest(unittest.TestCase):

    def test_plain(self):
        found = {True: 0, False: 0}
        for ground, chain in some_chains(36, 30):
            self.assertIs(is_plain(ground, chain), plain(chain))
            again = plain_of(ground, chain)
            self.assertTrue(plain(again))
            self.assertEqual(chain_rule(ground, again), chain_rule(ground, chain))
            self.assertEqual(again, chain_of(ground, chain_rule(ground, chain)))
            self.assertIs(again == chain, plain(chain))
            found[plain(chain)] += 1
        self.assertGreater(min(found.values()), 20)

    def test_edges(self):
        for ground in (EMPTY, EMPTY_HELD, WHOLE):
            self.assertIs(is_plain(ground, ()), True)
            self.assertEqual(plain_of(ground, ()), ())
        self.assertIs(is_plain(FREE, (("one", (0,), False), ("two", (0, 1), (0, 2), False))), True)
        self.assertIs(is_plain(FREE, (("one", (0,), True), ("two", (0, 1), (0, 2), False))), True)
        self.assertIs(is_plain(FREE, (("one", (0,), True), ("one", (0, 1), True), ("end", False))), False)

    def test_example(self):
        self.assertEqual((is_plain(FREE, C), plain_of(FREE, C)), (False, (("end", False),)))


if __name__ == "__main__":
    unittest.main()
