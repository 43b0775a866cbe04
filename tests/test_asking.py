import unittest
from functools import lru_cache
from itertools import combinations

from alikeclash.askclasses import Asker
from alikeclash.asking import answers_of, asked_lots, fits_chain, many_asked, told_back
from alikeclash.errors import InvalidEvent, NotUsable, Unfit
from alikeclash.finding import has_chain
from alikeclash.trusting import may_trust
from tests.samples import (
    LESSON, ODD, all_rules, chain_rules, chance_of, nearly_chained, random_chain, random_rule, subsets, told_rule_of,
)


def free(size):
    return size, ()


def others(size, lot):
    return tuple(column for column in range(size) if column not in lot)


def slow_answers(size, rule):
    return tuple(lot for lot in slow_asked(size) if others(size, lot) in rule)


@lru_cache(maxsize=None)
def chain_answers(size):
    """The answers of all rules with a chain, with these rules."""
    return {slow_answers(size, rule): rule for rule in chain_rules(free(size))}


def slow_asked(size):
    return sorted(lot for lot in subsets(range(size)) if 1 <= len(lot) <= 3)


def within(lot, answers):
    """The answers to the asked lots within the lot, its columns numbered from 0 on."""
    return tuple(tuple(lot.index(column) for column in yes) for yes in answers if set(yes) <= set(lot))


def chained_rule(chance, size):
    return told_rule_of(free(size), random_chain(chance, free(size)))


def bent(chance, size, answers, many):
    """The answers with many words turned."""
    turned = chance.sample(slow_asked(size), many)
    return tuple(sorted(set(answers) ^ set(turned)))


class AskingTest(unittest.TestCase):

    def test_asked(self):
        for size in range(9):
            self.assertEqual(asked_lots(size), tuple(slow_asked(size)))

    def test_answers(self):
        chance = chance_of(41)
        for size in range(9):
            for _ in range(6):
                rule = random_rule(chance, free(size))
                self.assertEqual(answers_of(size, rule), slow_answers(size, rule))

    def test_all_answers(self):
        for size in range(4):
            told = chain_answers(size)
            self.assertEqual(len(told), len(chain_rules(free(size))))
            for answers in subsets(slow_asked(size)):
                self.assertIs(fits_chain(size, answers), answers in told)
                if answers in told:
                    self.assertEqual(told_back(size, answers), told[answers])
                else:
                    self.unfit(size, answers)

    def test_four_columns(self):
        told = chain_answers(4)
        chance = chance_of(410)
        for answers, rule in list(told.items())[::2]:
            self.assertEqual(told_back(4, answers), rule)
            for other in (bent(chance, 4, answers, 1), bent(chance, 4, answers, 2)):
                self.assertIs(fits_chain(4, other), other in told)
                if other not in told:
                    self.unfit(4, other)

    def unfit(self, size, answers):
        with self.assertRaises(Unfit) as caught:
            told_back(size, answers)
        lot = caught.exception.lot
        self.assertIn(lot, subsets(range(size)))
        self.assertLessEqual(len(lot), 5)
        # No rule of so few columns has the answers within the lot.
        if len(lot) <= 4:
            self.assertNotIn(within(lot, answers), chain_answers(len(lot)))
        else:
            self.assertFalse(fits_chain(5, within(lot, answers)))

    def test_many_columns(self):
        chance = chance_of(411)
        unfit = 0
        for size in (5, 6, 7, 8):
            for _ in range(16):
                rule = chained_rule(chance, size)
                answers = slow_answers(size, rule)
                self.assertIs(fits_chain(size, answers), True)
                self.assertEqual(told_back(size, answers), rule)
                other = bent(chance, size, answers, chance.randint(1, 3))
                fits = all(fits_chain(5, within(lot, other)) for lot in combinations(range(size), 5))
                self.assertIs(fits_chain(size, other), fits)
                if fits:
                    back = told_back(size, other)
                    self.assertTrue(has_chain(free(size), back))
                    self.assertEqual(slow_answers(size, back), other)
                else:
                    unfit += 1
                    self.unfit(size, other)
        self.assertGreater(unfit, 40)

    def test_four_columns_do_not_show_it(self):
        """Two blocks and a lone column, each ahead of the next one, in a circle."""
        told = chain_answers(4)
        circle = ((0, 1), (0, 1, 2), (0, 1, 3), (2, 3), (2, 3, 4))
        for lot in combinations(range(5), 4):
            self.assertIn(within(lot, circle), told)
            self.assertIs(fits_chain(4, within(lot, circle)), True)
        self.assertIs(fits_chain(5, circle), False)
        for size, columns in ((5, (0, 1, 2, 3, 4)), (8, (0, 2, 3, 6, 7))):
            moved = tuple(tuple(columns[place] for place in lot) for lot in circle)
            with self.assertRaises(Unfit) as caught:
                told_back(size, moved)
            lot = caught.exception.lot
            self.assertEqual(len(lot), 5)
            self.assertIs(fits_chain(5, within(lot, moved)), False)

    def test_answers_do_not_show_a_chain(self):
        chance = chance_of(413)
        for size in (4, 5, 6):
            for _ in range(9):
                rule = chained_rule(chance, size)
                lots = [lot for lot in subsets(range(size)) if len(lot) <= size - 4]
                other = tuple(sorted(set(rule) ^ {chance.choice(lots)}))
                self.assertFalse(has_chain(free(size), other))
                self.assertEqual(answers_of(size, other), answers_of(size, rule))
                self.assertEqual(told_back(size, answers_of(size, other)), rule)

    def test_edges(self):
        self.assertEqual((asked_lots(0), answers_of(0, ()), fits_chain(0, ()), told_back(0, ())), ((), (), True, ()))
        self.assertEqual((told_back(1, ()), told_back(1, ((0,),))), ((), ((),)))
        for size in range(9):
            self.assertEqual(told_back(size, ()), ())
            self.assertEqual(len(told_back(size, asked_lots(size))), 2 ** size - 1)

    def test_wrong_answers(self):
        wrong = [((0, 1, 2, 3),), ((),), ((4,),), ((1,), (0,)), ((0,), (0,)), ((True,),), (("0",),), ((0,), None)]
        wrong += [thing for thing in ODD if thing != ()]
        for thing in wrong:
            for function in (fits_chain, told_back):
                with self.assertRaises(NotUsable, msg=thing) as caught:
                    function(4, thing)
                self.assertEqual((caught.exception.word, caught.exception.at), ("answers", -1))

    def test_many_asked(self):
        for size in range(9):
            blocks = [b for b in range(size + 1) if 2 * b <= size]
            most = max(b * (size - 2 * b) + b * (b - 1) // 2 for b in blocks)
            self.assertEqual(many_asked(size), size * (size + 1) // 2 + most)

    def test_example(self):
        self.assertEqual(answers_of(3, LESSON), ((0,), (0, 2), (1,), (1, 2), (2,)))
        self.assertEqual(many_asked(5), 18)
        self.assertEqual(fits_chain(3, ((0,), (1,), (1, 2))), False)
        self.assertEqual(told_back(2, ((0,),)), ((1,),))


def slow_blocks(size, words):
    """The links and the blocks, lone columns among these, as the document tells of next_lot."""
    links = set()
    for one, other in combinations(range(size), 2):
        if words[(one,)] == words[(other,)] != words[(one, other)]:
            links.add((one, other))
    blocks = {(column,) for column in range(size)}
    for one, other in links:
        first, = [block for block in blocks if one in block]
        second, = [block for block in blocks if other in block]
        blocks = blocks - {first, second} | {tuple(sorted(set(first + second)))}
    return links, sorted(blocks)


def slow_wanted(size, words):
    """For each two blocks, or a block and a lone column, that need one: the lots that will do."""
    links, blocks = slow_blocks(size, words)
    wanted = []
    for one, other in combinations(blocks, 2):
        if words[one[:1]] == words[other[:1]] and len(one + other) > 2:
            lots = {
                tuple(sorted((a, b, c))) for inner, outer in ((one, other), (other, one))
                for a, b in links if a in inner for c in outer
            }
            wanted.append(lots)
    return wanted


class AskerTest(unittest.TestCase):

    def check(self, size, asker, words):
        """Compare an asker that was told the words with the document's sentences."""
        self.assertEqual(asker.open_lots(), tuple(lot for lot in slow_asked(size) if lot not in words))
        self.assertEqual(asker.told(), tuple(sorted(lot for lot in words if words[lot])))
        found = asker.next_lot()
        few = [lot for lot in slow_asked(size) if len(lot) < 3 and lot not in words]
        if few:
            self.assertIn(found, few)
            return found
        missing = [lots for lots in slow_wanted(size, words) if not any(lot in words for lot in lots)]
        if missing:
            self.assertTrue(any(found in lots for lots in missing))
        else:
            self.assertIsNone(found)
        return found

    def unfinished(self, asker):
        with self.assertRaises(InvalidEvent) as caught:
            asker.finish()
        self.assertEqual((caught.exception.event, caught.exception.reason), ((), "open"))

    def test_asked_about_a_rule(self):
        chance = chance_of(42)
        for size in range(9):
            for _ in range(10):
                rule = chained_rule(chance, size)
                asker, words = Asker(size), {}
                while True:
                    lot = self.check(size, asker, words)
                    if lot is None:
                        break
                    self.unfinished(asker)
                    words[lot] = others(size, lot) in rule
                    self.assertIsNone(asker.tell(lot, words[lot]))
                self.assertLessEqual(len(words), many_asked(size))
                self.assertEqual(asker.finish(), rule)
                # What was told stays, and more may be told.
                self.assertEqual(asker.finish(), rule)
                for lot in asker.open_lots():
                    asker.tell(lot, others(size, lot) in rule)
                self.assertEqual((asker.finish(), asker.open_lots()), (rule, ()))

    def test_any_words(self):
        chance = chance_of(420)
        unfit, fits = 0, 0
        for size in (1, 2, 3, 4, 4, 4, 5, 6, 8):
            for many in (0, 0, 1, 3, 9):
                asker, words = Asker(size), {}
                rule = nearly_chained(chance, free(size), many)
                lots = chance.sample(slow_asked(size), min(many, len(slow_asked(size))))
                while True:
                    lot = lots.pop() if lots else self.check(size, asker, words)
                    if lot is None:
                        break
                    words[lot] = others(size, lot) in rule
                    asker.tell(lot, words[lot])
                if many == 0:
                    self.assertLessEqual(len(words), many_asked(size))
                if size > 4:
                    continue
                fitting = [
                    other for other in chain_rules(free(size))
                    if all((others(size, lot) in other) == words[lot] for lot in words)
                ]
                self.assertLessEqual(len(fitting), 1)
                if fitting:
                    fits += 1
                    self.assertEqual(asker.finish(), fitting[0])
                else:
                    unfit += 1
                    with self.assertRaises(Unfit) as caught:
                        asker.finish()
                    self.assertEqual(caught.exception.lot, tuple(range(size)))
        self.assertGreater(min(unfit, fits), 3)

    def test_many_told_at_random(self):
        chance = chance_of(421)
        for size in (3, 4, 5, 6, 7, 8):
            for _ in range(6):
                asker, words = Asker(size), {}
                while True:
                    lot = self.check(size, asker, words)
                    if lot is None:
                        break
                    words[lot] = chance.random() < 0.5
                    asker.tell(lot, words[lot])
                self.assertLessEqual(len(words), many_asked(size))

    def test_all_words_of_three_columns(self):
        for rule in all_rules((3, ())):
            asker = Asker(3)
            while asker.next_lot() is not None:
                lot = asker.next_lot()
                asker.tell(lot, others(3, lot) in rule)
            words = {lot: others(3, lot) in rule for lot in slow_asked(3) if lot not in asker.open_lots()}
            fitting = [
                other for other in chain_rules(free(3))
                if all((others(3, lot) in other) == words[lot] for lot in words)
            ]
            if fitting:
                self.assertEqual([asker.finish()], fitting)
            else:
                with self.assertRaises(Unfit) as caught:
                    asker.finish()
                self.assertEqual(caught.exception.lot, (0, 1, 2))

    def refused(self, asker, lot, w, reason):
        before = asker.open_lots(), asker.told(), asker.next_lot()
        for call in (lambda: asker.tell(lot, w), lambda: asker.tell(w=w, lot=lot)):
            with self.assertRaises(InvalidEvent, msg=(lot, w)) as caught:
                call()
            event = caught.exception.event
            self.assertIs(type(event), tuple)
            self.assertEqual(len(event), 2)
            self.assertTrue(event[0] is lot and event[1] is w)
            self.assertEqual(caught.exception.reason, reason)
        self.assertEqual((asker.open_lots(), asker.told(), asker.next_lot()), before)

    def test_refused_events(self):
        asker = Asker(4)
        asker.tell((1,), True)
        asker.tell((0, 2), False)
        for lot in ((1,), (0, 2), (), (4,), (0, 1, 2, 3), (True,), (0, True), [0], (2, 0), (0, 0), "0", None, 0, True):
            for w in (True, False, 0, 1, None, "yes"):
                self.refused(asker, lot, w, "lot")
        for thing in ODD:
            if thing != (0,) and thing != (0, 1):
                self.refused(asker, thing, True, "lot")
        for w in (0, 1, None, "yes", (), (True,), [False], 2):
            self.refused(asker, (0,), w, "word")
        asker.tell((0,), False)
        self.refused(asker, (0,), True, "lot")
        self.refused(asker, (0,), False, "lot")
        self.unfinished(asker)

    def test_sizes(self):
        for size in (None, True, False, -1, "3", (3,), [3], (3, ())):
            for call in (lambda: Asker(size), lambda: Asker(size=size)):
                with self.assertRaises(NotUsable, msg=size) as caught:
                    call()
                self.assertEqual((caught.exception.word, caught.exception.at), ("size", -1))
        asker = Asker(0)
        self.assertEqual((asker.open_lots(), asker.told(), asker.next_lot(), asker.finish()), ((), (), None, ()))

    def test_askers_are_apart(self):
        one, other = Asker(2), Asker(2)
        one.tell((0,), True)
        self.assertEqual((one.told(), other.told()), (((0,),), ()))
        self.assertEqual(len(other.open_lots()), 3)

    def test_example(self):
        asker = Asker(1)
        asker.tell((0,), True)
        found = asker.open_lots(), asker.told(), asker.next_lot(), asker.finish()
        self.assertEqual(found, ((), ((0,),), None, ((),)))


class FewAnswersTest(unittest.TestCase):

    def test_trusted_rules_are_told_by_fewer_answers(self):
        for size in range(5):
            rules = list(chain_rules(free(size)))
            for way, many in (("fit", 2), ("rooms", 2), ("heaviest", 1)):
                seen = set()
                for rule in rules:
                    if may_trust(free(size), rule, way):
                        answers = tuple(lot for lot in slow_answers(size, rule) if len(lot) <= many)
                        self.assertNotIn(answers, seen)
                        seen.add(answers)


if __name__ == "__main__":
    unittest.main()
