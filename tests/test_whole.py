"""What the document promises over the whole program."""

import copy
import importlib
import unittest

from alikeclash.finding import has_chain
from alikeclash.hourkinds import is_hours
from alikeclash.hourlines import hours_text, read_hours
from alikeclash.hourplans import heaviest_sum, hours_for
from alikeclash.loads import load_of, quarrel_of
from alikeclash.pieces import is_pieces, pieces_length
from alikeclash.planchecker import lets_plan
from alikeclash.roundplans import rounds_plan
from alikeclash.sharebreaks import share_break
from alikeclash.tryings import tried_load, tried_worth
from tests.samples import (
    FREE, KEPT, all_rules, chained_tables, chance_of, clashing, fault_of, nearly_chained, random_table, slow_fewest,
    slow_groups, slow_heaviest, some_weights,
)
from tests.test_interface import CLASSES, FUNCTIONS, parameters
from tests.test_parameters import CASES, METHODS


def shape_of(thing):
    """The value with the kinds of all its parts, so that True is not 1."""
    if type(thing) in (tuple, list):
        return type(thing), tuple(shape_of(part) for part in thing)
    return type(thing), thing


def parts_of(thing):
    """The value and all its parts."""
    return [thing] + [inner for part in thing for inner in parts_of(part)] if type(thing) in (tuple, list) else [thing]


class ResultsTest(unittest.TestCase):

    def kept(self, function, told):
        """Call by position and by name; what is returned is plain, and the same each time."""
        before = shape_of(tuple(told))
        first, second = function(*told), function(*told)
        named = function(**dict(zip(parameters(function), told)))
        if not hasattr(first, "__dict__"):
            self.assertEqual(shape_of(first), shape_of(second))
            self.assertEqual(shape_of(first), shape_of(named))
            for part in parts_of(first):
                self.assertIn(type(part), (tuple, int, bool, str, type(None)), function)
        self.assertEqual(shape_of(tuple(told)), before, function)

    def test_functions(self):
        for module, functions in FUNCTIONS.items():
            found = importlib.import_module("alikeclash." + module)
            for name in functions:
                if name in CASES:
                    fixed, *cases = CASES[name]
                    self.kept(getattr(found, name), [*fixed, *[case[0] for case in cases]])

    def test_kinds_are_words(self):
        many = 0
        for module, functions in FUNCTIONS.items():
            found = importlib.import_module("alikeclash." + module)
            for name, words in functions.items():
                if words.split()[-1:] == ["thing"] and name.startswith("is_"):
                    many += 1
                    fixed = {"size": 3, "many": 4, "ground": FREE}
                    told = [fixed[word] for word in words.split()[:-1]]
                    for thing in ((), ((),), True, 0, None, "", [], [[]], (0, 1), ("come", (0, 0, 0), 1), ((), (), (), 0)):
                        before = copy.deepcopy(thing)
                        self.assertIs(type(getattr(found, name)(*told, thing)), bool)
                        self.assertEqual(shape_of(thing), shape_of(before))
        self.assertGreater(many, 18)

    def test_methods(self):
        changing = {"give", "weigh", "undo", "do", "do_all"}
        for classes in CLASSES.values():
            for name, methods in classes.items():
                for method in methods:
                    if f"{name}.{method}" in METHODS and method not in changing:
                        begun, *cases = METHODS[f"{name}.{method}"]
                        self.kept(getattr(begun(), method), [case[0] for case in cases])


class GuaranteesTest(unittest.TestCase):

    def papers(self, ground, rule, table):
        """A paper of rounds, and one of cover, each with a shortest plan for weights 1."""
        for form, word in (("rounds", True), ("cover", False)):
            heavy = max(slow_groups(rule, table, word), key=len)
            yield form, heavy, self.shortest(slow_groups(rule, table, not word), tuple(range(len(table))))

    def shortest(self, groups, rows):
        """The fewest of the groups that part the rows, as pieces of length 1."""
        if not rows:
            return ()
        best = None
        for group in groups:
            if group[:1] == rows[:1] and set(group) <= set(rows):
                rest = self.shortest(groups, tuple(row for row in rows if row not in group))
                if best is None or len(rest) + 1 < len(best):
                    best = ((1, group),) + rest
        return best

    def test_trusted_papers(self):
        # Rules with a chain have accepted papers for each table; what is accepted is load and rounds.
        chance = chance_of(111)
        for ground in (FREE, KEPT):
            for rule in chance.sample(all_rules(ground), 32):
                table = random_table(chance, ground, 12, 3)[:5]
                ones = (1,) * len(table)
                for paper in self.papers(ground, rule, table):
                    word = paper[0] == "rounds"
                    heavy, fewest = slow_heaviest(rule, table, ones, word), slow_fewest(rule, table, not word)
                    found = fault_of(lets_plan, ground, rule, table, ones, paper)
                    self.assertEqual(found, heavy if heavy == fewest else ("length", -1))
                    if has_chain(ground, rule):
                        self.assertEqual(found, heavy)

    def test_rules_without_a_chain_go_wrong(self):
        # Some table of five or seven rows has no hours as long as the greatest sum of a quarrel.
        chance = chance_of(112)
        many = 0
        for ground in (FREE, KEPT, (4, ())) * 6:
            rule = nearly_chained(chance, ground, 3)
            if has_chain(ground, rule):
                self.assertIsNone(share_break(ground, rule))
                continue
            many += 1
            table, share = share_break(ground, rule)
            ones = (1,) * len(table)
            self.assertIn(len(table), (5, 7))
            self.assertLessEqual(share[0] * tried_load(ground, rule, table, ones), share[1])
            # All peaces together give no more than the worth in each moment.
            self.assertGreater(share[0] * len(table), share[1] * tried_worth(ground, rule, table, ones))
        self.assertGreater(many, 3)

    def test_one_more(self):
        # One more of a row's weight makes the load one more if some heaviest quarrel has the row.
        chance = chance_of(113)
        for ground, rule, _, table in chained_tables(113, 1, 7):
            quarrels = slow_groups(rule, table, True)
            for weights in some_weights(chance, table):
                load = load_of(ground, rule, table, weights)
                for row in range(len(table)):
                    more = weights[:row] + (weights[row] + 1,) + weights[row + 1:]
                    raises = any(row in group and sum(weights[other] for other in group) == load for group in quarrels)
                    self.assertEqual(load_of(ground, rule, table, more), load + raises)

    def test_what_was_returned_may_be_passed_in(self):
        chance = chance_of(114)
        for ground, rule, _, table in chained_tables(114, 1):
            weights = some_weights(chance, table)[3]
            plan = rounds_plan(ground, rule, table, weights)
            self.assertIs(is_pieces(len(table), plan), True)
            self.assertEqual(pieces_length(plan), load_of(ground, rule, table, weights))
            paper = ("rounds", quarrel_of(ground, rule, table, weights), plan)
            self.assertEqual(lets_plan(ground, rule, table, weights, paper), pieces_length(plan))
            shares = tuple((1, 60 - row) for row in range(len(table)))
            hours = hours_for(ground, rule, table, shares, heaviest_sum(ground, rule, table, shares))
            self.assertIs(is_hours(len(table), hours), True)
            self.assertEqual(read_hours(hours_text(hours)), hours)
            for _, group in hours:
                self.assertFalse(clashing(rule, [table[row] for row in group]))


if __name__ == "__main__":
    unittest.main()
