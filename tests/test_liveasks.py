import unittest

from alikeclash.clashes import is_peace, is_quarrel
from alikeclash.desks import Desk
from alikeclash.errors import InvalidEvent, NotUsable, Refused
from alikeclash.live import LiveTable
from alikeclash.liveasks import (
    clashes_now, load_now, peace_now, plan_now, quarrel_now, snapshot, spare_now, worth_now,
)
from alikeclash.liveevents import coming_log
from alikeclash.livestates import first_refused
from alikeclash.replaying import loads_through, replayed
from alikeclash.ruleclasses import made
from tests.samples import (
    CHAINED, EMPTY, FREE, KEPT, LESSON, LINE, MUX, ODD, ONE, PAIRS, WHOLE, chance_of, clashing, forty_rows, is_triple,
    open_ones, random_chain, slow_groups, slow_heaviest, slow_plan_fault, told_rule_of,
)
from tests.test_live import THREE, random_event

ASKS = (snapshot, load_now, worth_now, quarrel_now, peace_now, plan_now)


def live_tables(number, many=3, events=14):
    """Live tables with their grounds and rules, on their way through some events."""
    chance = chance_of(number)
    for ground in (FREE, KEPT, CHAINED, (4, ()), ONE, EMPTY, WHOLE) * many:
        rule = told_rule_of(ground, random_chain(chance, ground))
        live = LiveTable(ground, rule)
        yield ground, rule, live
        for _ in range(events):
            event = random_event(chance, ground, live.names_now())
            if first_refused(ground, live.log() + (event,)) is None:
                live.go(event)
        yield ground, rule, live


class AsksTest(unittest.TestCase):

    def rows_of(self, live, group):
        """The rows with these names."""
        names = live.names_now()
        self.assertIs(type(group), tuple)
        self.assertEqual(list(group), sorted(set(group)))
        return tuple(names.index(name) for name in group)

    def test_all(self):
        for ground, rule, live in live_tables(87):
            table, weights, names, _ = live.state_now()
            before = live.state_now(), live.log(), live.tally()
            self.assertEqual(snapshot(live), (table, weights, names))
            load, worth = [slow_heaviest(rule, table, weights, word) for word in (True, False)]
            self.assertEqual((load_now(live), worth_now(live)), (load, worth))
            for group, right, weight in (
                (quarrel_now(live), is_quarrel, load), (peace_now(live), is_peace, worth),
            ):
                rows = self.rows_of(live, group)
                self.assertTrue(right(ground, rule, table, rows))
                self.assertEqual(sum(weights[row] for row in rows), weight)
            plan = plan_now(live)
            self.assertIs(type(plan), tuple)
            pieces = tuple((length, self.rows_of(live, group)) for length, group in plan)
            self.assertIsNone(slow_plan_fault(rule, table, weights, pieces, False))
            self.assertEqual(sum(length for length, _ in plan), load)
            self.assertLessEqual(len(plan), len([weight for weight in weights if weight]))
            quarrels, pairs = slow_groups(rule, table, True), clashing(rule, table)
            for row, name in enumerate(names):
                through = max(sum(weights[other] for other in group) for group in quarrels if row in group)
                self.assertEqual(spare_now(live, name), load - through)
                beside = tuple(names[other] for other in range(len(table)) if tuple(sorted((row, other))) in pairs)
                self.assertEqual(clashes_now(live, name), beside)
            self.assertEqual((live.state_now(), live.log(), live.tally()), before)

    def test_forty_rows(self):
        for ground, rule, _, table in forty_rows(870, 1):
            weights = tuple(row % 7 for row in range(len(table)))
            live = replayed(ground, rule, coming_log(ground, table, weights))
            self.assertEqual(snapshot(live), (table, weights, tuple(range(len(table)))))
            plan = plan_now(live)
            self.assertIsNone(slow_plan_fault(rule, table, weights, plan, False))
            self.assertEqual(sum(length for length, _ in plan), load_now(live))
            self.assertEqual(sum(weights[name] for name in quarrel_now(live)), load_now(live))
            self.assertEqual(sum(weights[name] for name in peace_now(live)), worth_now(live))

    def test_names_and_not_rows(self):
        live = LiveTable(FREE, LESSON)
        live.do_all((("come", (9, 9, 9), 1), ("leave", 0)) + THREE)
        self.assertEqual(snapshot(live)[2], (1, 2, 3))
        self.assertEqual((quarrel_now(live), peace_now(live), clashes_now(live, 2)), ((1, 2), (1, 3), (1, 3)))
        self.assertEqual(sorted(plan_now(live)), [(1, (1, 3)), (1, (2,)), (2, (1,))])
        self.assertEqual(spare_now(live, 3), 2)

    def test_what_is_no_live_table(self):
        wrong = ODD + (LiveTable, Desk(FREE, LESSON), made(FREE, LESSON), LiveTable(FREE, LESSON).state_now())
        for thing in wrong:
            for ask in ASKS:
                with self.assertRaises(NotUsable) as caught:
                    ask(thing)
                self.assertEqual((caught.exception.word, caught.exception.at), ("live", -1))
            for ask in (spare_now, clashes_now):
                with self.assertRaises(NotUsable) as caught:
                    ask(thing, None)
                self.assertEqual((caught.exception.word, caught.exception.at), ("live", -1))

    def test_names_that_there_are_not(self):
        live = LiveTable(FREE, LESSON)
        live.do_all(THREE + (("leave", 1),))
        for name in ODD + (1, 3, 10 ** 12, "0", (0,), True, False, live):
            for ask in (spare_now, clashes_now):
                with self.assertRaises(NotUsable, msg=name) as caught:
                    ask(live, name)
                self.assertEqual((caught.exception.word, caught.exception.at), ("name", -1))
        self.assertEqual((spare_now(live, 0), clashes_now(live, 0)), (0, ()))

    def test_edges(self):
        for ground in (EMPTY, WHOLE, FREE):
            live = LiveTable(ground, ())
            self.assertEqual([ask(live) for ask in ASKS], [((), (), ()), 0, 0, (), (), ()])
            row = (4,) * ground[0]
            live.come(row, 0)
            self.assertEqual([ask(live) for ask in (snapshot, load_now, worth_now, plan_now)], [((row,), (0,), (0,)), 0, 0, ()])
            self.assertEqual((spare_now(live, 0), clashes_now(live, 0)), (0, ()))

    def test_weighing(self):
        # A row of weight w and spare s, weighed w + d, makes the load the greater of L and L - s + d.
        for _, _, live in live_tables(871, 1):
            load = load_now(live)
            for name, weight in zip(live.names_now(), live.weights_now()):
                spare = spare_now(live, name)
                for more in (0, 1, spare, spare + 1, 10 ** 12):
                    self.assertEqual(live.tried(("weigh", name, weight + more)), max(load, load - spare + more))

    def test_example(self):
        live = LiveTable(FREE, LESSON)
        live.do_all(THREE)
        live.leave(1)
        live.come((0, 2, 2), 2)
        self.assertEqual((load_now(live), quarrel_now(live), spare_now(live, 2)), (5, (0, 3), 4))
        self.assertEqual(loads_through(FREE, LESSON, live.log()), (3, 4, 4, 3, 5))


class ReplayingTest(unittest.TestCase):

    def test_replayed(self):
        for ground, rule, live in live_tables(88):
            again = replayed(ground, rule, live.log())
            self.assertIs(type(again), LiveTable)
            self.assertIsNot(again, live)
            self.assertEqual((again.state_now(), again.log(), again.about()), (live.state_now(), live.log(), (ground, rule)))
            self.assertEqual(again.tally(), (len(live.log()), 0, 0))
            loads = loads_through(ground, rule, live.log())
            self.assertIs(type(loads), tuple)
            slow = []
            for many in range(len(live.log())):
                table, weights, _ = snapshot(replayed(ground, rule, live.log()[:many + 1]))
                slow.append(slow_heaviest(rule, table, weights, True))
            self.assertEqual(list(loads), slow)
            begun = again.state_now()
            if live.names_now():
                live.leave(live.names_now()[0])
                self.assertEqual(again.state_now(), begun)

    def test_refused_events(self):
        log = THREE + (("leave", 1), ("weigh", 1, 5), ("leave", 9))
        again = THREE + (("come", (0, 0, 0), 8),)
        for function in (replayed, loads_through):
            for told, event, reason in ((log, log[4], "name"), (again, again[3], "twice")):
                with self.assertRaises(InvalidEvent) as caught:
                    function(FREE, LESSON, told)
                self.assertIs(caught.exception.event, event)
                self.assertEqual(caught.exception.reason, reason)
            with self.assertRaises(InvalidEvent) as caught:
                function(KEPT, (), (("come", (0, 1, 2), 5), ("come", (1, 1, 3), 5)))
            self.assertEqual((caught.exception.event, caught.exception.reason), (("come", (1, 1, 3), 5), "kept"))

    def test_first_of_several_errors(self):
        log = (("leave", 0),)
        for function in (replayed, loads_through):
            for rule in (PAIRS, MUX):
                for told in ((), log, THREE):
                    with self.assertRaises(Refused) as caught:
                        function(FREE, rule, told)
                    self.assertTrue(is_triple(FREE, rule, caught.exception.triple))
                with self.assertRaises(NotUsable) as caught:
                    function(FREE, rule, THREE + (("leave", True),))
                self.assertEqual((caught.exception.word, caught.exception.at), ("log", -1))
            with self.assertRaises(NotUsable) as caught:
                function(FREE, [()], None)
            self.assertEqual((caught.exception.word, caught.exception.at), ("rule", -1))

    def test_edges(self):
        self.assertEqual(loads_through(FREE, LESSON, ()), ())
        self.assertEqual(replayed(WHOLE, (), ()).state_now(), ((), (), (), 0))
        forty = coming_log(FREE, tuple((k, k, k) for k in range(40)), (10 ** 12,) * 40)
        self.assertEqual(loads_through(FREE, LESSON, forty), (10 ** 12,) * 40)
        self.assertEqual(loads_through(FREE, tuple(open_ones(FREE)), forty), tuple(10 ** 12 * many for many in range(1, 41)))
        self.assertEqual(loads_through(FREE, LESSON, (("come", (0, 0, 0), 4), ("leave", 0))), (4, 0))
        self.assertEqual(loads_through(FREE, LESSON, coming_log(FREE, LINE, (3, 1, 1, 3))), (3, 4, 4, 4))


if __name__ == "__main__":
    unittest.main()
