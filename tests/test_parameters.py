"""Each wrong parameter is refused, the first of several, by position and by name."""

import importlib
import unittest

from alikeclash.errors import NotUsable
from alikeclash.groundclasses import Ground
from tests.samples import EMPTY, FREE, KEPT, LINE, WHOLE
from tests.test_interface import CLASSES, FUNCTIONS, parameters

LOTS = (None, 0, True, "0", [0], (3,), (True,), (False, 1), (1, 0), (0, 0), (-1,), ((0,),), (None,))
GROUNDS = (None, 3, [3, ()], (True, ()), (3, []), (3, (((3,), ()),)), (3, (((1,), (2,)), ((0,), (2,)))), (-1, ()), (3,))
TABLES = (
    None, LINE[0], list(LINE), LINE + LINE[:1], ((0, 0, True),), ([0, 0, 0],), ((0, 0),), ((0, 0, -1),), ("000",), 0,
)
NUMBERS = (None, -1, True, False, "1", (1,), [1])
ROWS = NUMBERS + (4, 10 ** 12)
SEQUENCES = (None, [0, 1, 2], (0, 1), (0, 1, 1), (0, 1, 3), (0, True, 2), (False, 1, 2), (0, 1, 2, 3), (), "012", ((0,), 1, 2))
GROUPS = LOTS[:5] + ((4,),) + LOTS[6:]
SENTENCES = (None, "always", ["always"], ("same", 3), ("same", True), ("not",), ("and", ("always",)), (), 0)
QUOTIENTS = (None, 1, True, (2, 4), (1, 0), (1, -2), [1, 2], (1, True), (1, 2, 3), "1/2", (True, 1))
TEXTS = (None, 0, True, (), [""], ("3",), ["3"])
LIKES = ([(0, 1, ())], None, (), ((0, 1),), ((0, 1, (0, 1, 2)),), ((0, True, ()),), ((False, 1, ()),), ((0, 1, (True,)),))

# For each function its fixed first argument, if it is not checked, and what else may stand and may not.
CASES = {
    "quotient_of": ((), [3, (None, True, "1", (1,), [1])], [2, (None, True, 0, False, "1", (1,))]),
    "plus": ((), [(1, 2), QUOTIENTS], [(1, 2), QUOTIENTS]),
    "minus": ((), [(1, 2), QUOTIENTS], [(1, 2), QUOTIENTS]),
    "times": ((), [(1, 2), QUOTIENTS], [(1, 2), QUOTIENTS]),
    "over": ((), [(0, 1), QUOTIENTS], [(1, 2), QUOTIENTS + ((0, 1),)]),
    "at_most": ((), [(1, 2), QUOTIENTS], [(1, 2), QUOTIENTS]),
    "rounded_up": ((), [(-1, 2), QUOTIENTS]),
    "meet_of": ((3,), [(0, 2), LOTS], [(0, 2), LOTS]),
    "union_of": ((3,), [(0, 2), LOTS], [(0, 2), LOTS]),
    "without": ((3,), [(0, 2), LOTS], [(0, 2), LOTS]),
    "is_within": ((3,), [(0, 2), LOTS], [(0, 2), LOTS]),
    "closing_of": ((FREE,), [(0,), LOTS]),
    "is_closed": ((FREE,), [(0,), LOTS]),
    "follows": ((FREE,), [(0,), LOTS], [(1,), LOTS]),
    "same_ground": ((FREE,), [KEPT, GROUNDS]),
    "with_dependence": ((FREE,), [(0,), LOTS], [(1,), LOTS]),
    "held_ground": ((FREE,), [(0,), LOTS]),
    "renamed_ground": ((FREE,), [(2, 0, 1), SEQUENCES]),
    "doubled_ground": ((FREE,), [2, NUMBERS + (3,)]),
    "likeness_of": ((FREE,), [LINE, TABLES], [1, ROWS], [0, ROWS + (1,)]),
    "likenesses": ((FREE,), [LINE, TABLES]),
    "first_unkept": ((FREE,), [LINE, TABLES + ((),)]),
    "lets_likeness": ((FREE,), [2, NUMBERS], [((0, 1, ()),), ()]),
    "table_of": ((FREE,), [2, NUMBERS], [((0, 1, ()),), LIKES]),
    "renamed_table": ((FREE,), [LINE, TABLES], [(2, 0, 1), SEQUENCES]),
    "rows_moved": ((FREE,), [LINE[:3], TABLES], [(2, 0, 1), SEQUENCES]),
    "part_of": ((FREE,), [LINE, TABLES], [(0, 3), GROUPS]),
    "holds_for": ((3,), [("same", 2), SENTENCES], [(0,), LOTS]),
    "alike_sentence": ((3,), [(0,), LOTS]),
    "same_sense": ((FREE,), [("same", 2), SENTENCES], [("same", 2), SENTENCES]),
    "sentence_line": ((3,), [("same", 2), SENTENCES]),
    "read_sentence": ((3,), ["same 2", TEXTS]),
    "read_ground": ((), ["3", TEXTS]),
    "table_text": ((FREE,), [LINE, TABLES]),
    "read_table": ((FREE,), ["0", TEXTS]),
}

METHODS = {
    "Ground": (
        [3, NUMBERS], [(((1,), (2,)),), (None, [((1,), (2,))], ((1,), (2,)), (((1,), (3,)),), (((True,), ()),), 0)],
    ),
    "closing": (lambda: Ground(*FREE), [(0,), LOTS]),
    "keeps": (lambda: Ground(*FREE), [LINE, TABLES + ((),)]),
}


class ParametersTest(unittest.TestCase):

    def refused(self, function, fixed, cases):
        words = parameters(function)
        good = [case[0] for case in cases]
        function(*fixed, *good)
        function(**dict(zip(words, [*fixed, *good])))
        worst = [case[1][0] if case[1] else case[0] for case in cases]
        for at, (_, wrong) in enumerate(cases):
            for thing in wrong:
                for rest in (good, worst):
                    told = [*fixed, *good[:at], thing, *rest[at + 1:]]
                    self.names(words[len(fixed) + at], lambda: function(*told), thing)
                    self.names(words[len(fixed) + at], lambda: function(**dict(zip(words, told))), thing)

    def names(self, word, call, thing):
        with self.assertRaises(NotUsable, msg=(word, thing)) as caught:
            call()
        self.assertEqual((caught.exception.word, caught.exception.at), (word, -1), thing)

    def test_functions(self):
        checked = {"whole_of", "lots_of", "is_ground", "base_of", "closed_lots", "free_ground", "ground_text"}
        for module, functions in FUNCTIONS.items():
            found = importlib.import_module("alikeclash." + module)
            for name in functions:
                if name in CASES:
                    fixed, *cases = CASES[name]
                    with self.subTest(name):
                        self.refused(getattr(found, name), fixed, cases)
                else:
                    self.assertTrue(name.startswith(("is_", "lets_")) or name in checked | UNCHECKED, name)

    def test_classes(self):
        for module, classes in CLASSES.items():
            found = importlib.import_module("alikeclash." + module)
            for name, methods in classes.items():
                with self.subTest(name):
                    self.refused(getattr(found, name), (), METHODS[name])
                for method, words in methods.items():
                    if words and method != "__init__":
                        made, *cases = METHODS[method]
                        with self.subTest(method):
                            self.refused(getattr(made(), method), (), cases)

    def test_edges(self):
        found = importlib.import_module("alikeclash.groundmaking")
        self.names("column", lambda: found.doubled_ground(EMPTY, 0), 0)
        found = importlib.import_module("alikeclash.tables")
        self.names("table", lambda: found.likenesses(KEPT, LINE), LINE)
        self.names("table", lambda: found.likenesses(WHOLE, ((0, 0), (0, 1))), 0)
        self.names("one", lambda: found.likeness_of(FREE, (), 0, 0), 0)
        self.names("rows", lambda: found.first_unkept(EMPTY, ((), ())), 0)
        found = importlib.import_module("alikeclash.sentences")
        self.names("sentence", lambda: found.holds_for(0, ("same", 0), (0,)), 0)


UNCHECKED = set()


if __name__ == "__main__":
    unittest.main()
