import unittest

from alikeclash.desks import Desk
from alikeclash.errors import InvalidEvent, NotUsable, Refused
from alikeclash.live import LiveTable
from alikeclash.liveasks import load_now, snapshot, worth_now
from alikeclash.livestates import first_refused
from tests.samples import FREE, KEPT, LESSON, MUX, ODD, PAIRS, WHOLE, chance_of, is_triple, random_chain, told_rule_of
from tests.test_live import THREE, random_event

WRONG = tuple(thing for thing in ODD if thing not in ("same", "rounds")) + (
    "A", "a1", "a b", " a", "a ", "abcdefghijklm", "a-b", "a_b", "a\n", ["a"], ("a",), b"a", ":",
)


class DeskTest(unittest.TestCase):

    def test_against_live_tables(self):
        chance = chance_of(91)
        for ground in (FREE, KEPT) * 4:
            rule = told_rule_of(ground, random_chain(chance, ground))
            desk, tables = Desk(ground, rule), {}
            self.same(desk, tables)
            for name in ("zz", "m", "a", "abcdefghijkl", "ab", "b", "aa", "z", "q", "y"):
                self.assertIsNone(desk.open_table(name))
                tables[name] = LiveTable(ground, rule)
                for _ in range(8):
                    other = chance.choice(sorted(tables))
                    live = tables[other]
                    event = random_event(chance, ground, live.names_now())
                    refused = first_refused(ground, live.log() + (event,))
                    if refused:
                        with self.assertRaises(InvalidEvent) as caught:
                            desk.do(other, event)
                        self.assertIs(caught.exception.event, event)
                        self.assertEqual(caught.exception.reason, refused[1])
                    else:
                        self.assertEqual(desk.do(other, event), live.go(event))
                    self.assertEqual(desk.snapshot_of(other), snapshot(live))
                self.same(desk, tables)

    def same(self, desk, tables):
        names = sorted(tables)
        loads = [(name, load_now(tables[name])) for name in names]
        self.assertEqual(desk.names(), tuple(names))
        self.assertEqual(desk.loads(), tuple(loads))
        most = max([load for _, load in loads], default=None)
        self.assertEqual(desk.heaviest_name(), next((name for name, load in loads if load == most), None))
        lines = []
        for name in names:
            live = tables[name]
            lines.append(f"{name}: rows {len(live.table_now())}, load {load_now(live)}, worth {worth_now(live)}")
        self.assertEqual(desk.report(), "\n".join(lines))
        for name in names:
            self.assertEqual(desk.snapshot_of(name), snapshot(tables[name]))

    def test_no_table(self):
        desk = Desk(FREE, LESSON)
        self.assertEqual((desk.names(), desk.loads(), desk.heaviest_name(), desk.report()), ((), (), None, ""))

    def test_equal_loads(self):
        desk = Desk(FREE, LESSON)
        for name in ("c", "b", "d"):
            desk.open_table(name)
        self.assertEqual(desk.heaviest_name(), "b")
        for name in ("d", "c"):
            desk.do(name, THREE[0])
        self.assertEqual((desk.heaviest_name(), desk.loads()), ("c", (("b", 0), ("c", 3), ("d", 3))))
        desk.do("d", ("weigh", 0, 4))
        self.assertEqual(desk.heaviest_name(), "d")

    def test_names(self):
        desk = Desk(FREE, LESSON)
        desk.open_table("b")
        for name in WRONG + ("b", desk):
            with self.assertRaises(NotUsable, msg=name) as caught:
                desk.open_table(name)
            self.assertEqual((caught.exception.word, caught.exception.at), ("name", -1))
        for name in WRONG + ("a", "bb", desk):
            for call in (lambda: desk.do(name, None), lambda: desk.do(name, THREE[0]), lambda: desk.snapshot_of(name)):
                with self.assertRaises(NotUsable, msg=name) as caught:
                    call()
                self.assertEqual((caught.exception.word, caught.exception.at), ("name", -1))
        self.assertEqual((desk.names(), desk.snapshot_of("b")), (("b",), ((), (), ())))

    def test_refused_events(self):
        desk = Desk(KEPT, ())
        desk.open_table("a")
        desk.do("a", ("come", (0, 1, 2), 5))
        before = desk.report(), desk.snapshot_of("a")
        for event, reason in (
            (None, "event"), (["leave", 0], "event"), (("leave", True), "event"), (("leave", 1), "name"),
            (("come", (0, 1, 2), 5), "twice"), (("come", (1, 1, 3), 5), "kept"),
        ):
            with self.assertRaises(InvalidEvent) as caught:
                desk.do("a", event)
            self.assertIs(caught.exception.event, event)
            self.assertEqual(caught.exception.reason, reason)
            self.assertEqual((desk.report(), desk.snapshot_of("a")), before)
        self.assertEqual((desk.do("a", ("leave", 0)), desk.do("a", ("come", (0, 1, 2), 5))), (None, 1))

    def test_made(self):
        for things, word in (
            ((None, None), "ground"), (((3, []), ()), "ground"), ((FREE, [()]), "rule"), ((FREE, ((0, 1, 2),)), "rule"),
        ):
            with self.assertRaises(NotUsable) as caught:
                Desk(*things)
            self.assertEqual((caught.exception.word, caught.exception.at), (word, -1))
        for rule in (PAIRS, MUX):
            with self.assertRaises(Refused) as caught:
                Desk(FREE, rule)
            self.assertTrue(is_triple(FREE, rule, caught.exception.triple))
        one, other = Desk(WHOLE, ()), Desk(WHOLE, ())
        one.open_table("a")
        self.assertEqual((one.names(), other.names()), (("a",), ()))

    def test_example(self):
        desk = Desk(FREE, LESSON)
        told = desk.open_table("b"), desk.open_table("a"), desk.do("b", ("come", (0, 0, 0), 3))
        self.assertEqual(told, (None, None, 0))
        report = "a: rows 0, load 0, worth 0\nb: rows 1, load 3, worth 3"
        self.assertEqual((desk.heaviest_name(), desk.report()), ("b", report))


if __name__ == "__main__":
    unittest.main()
