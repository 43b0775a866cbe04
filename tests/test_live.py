import unittest

from alikeclash.errors import InvalidEvent, NothingToUndo, NotUsable, Refused
from alikeclash.live import LiveTable
from alikeclash.liveevents import coming_log, is_event, is_log
from alikeclash.livestates import first_refused, is_state, state_after, state_behind
from alikeclash.loads import load_of
from tests.samples import (
    BASED, CHAINED, EMPTY, EMPTY_HELD, FREE, KEPT, LESSON, LINE, MUX, ODD, ONE, PAIRS, WHOLE, chance_of, is_plain_table,
    is_triple, random_chain, random_table, slow_heaviest, told_rule_of,
)

NONE = ((), (), (), 0)
THREE = (("come", (0, 0, 0), 3), ("come", (0, 1, 1), 1), ("come", (1, 1, 2), 1))


class Model:
    """A live table, reckoned plainly: all is told again from the log."""

    def __init__(self, ground):
        self.ground = ground
        self.done = []

    def reason(self, event):
        rows, _ = self.rows()
        if event[0] != "come":
            return None if event[1] in rows else "name"
        table = tuple(row for row, _ in rows.values())
        if event[1] in table:
            return "twice"
        return None if is_plain_table(self.ground, table + (event[1],)) else "kept"

    def rows(self):
        rows, coming = {}, 0
        for event in self.done:
            if event[0] == "come":
                rows[coming] = (event[1], event[2])
                coming += 1
            elif event[0] == "leave":
                del rows[event[1]]
            else:
                rows[event[1]] = (rows[event[1]][0], event[2])
        return rows, coming

    def state(self):
        rows, coming = self.rows()
        return (
            tuple(row for row, _ in rows.values()), tuple(weight for _, weight in rows.values()), tuple(rows), coming,
        )


def random_event(chance, ground, names):
    """An event that is often, but not always, done."""
    name = chance.choice(list(names)) if names and chance.random() < 0.8 else chance.randint(0, 12)
    kind = chance.choice(("come", "come", "come", "leave", "weigh"))
    if kind == "come":
        return "come", tuple(chance.randint(0, 2) for _ in range(ground[0])), chance.choice((0, 1, 5, 10 ** 12))
    return ("leave", name) if kind == "leave" else ("weigh", name, chance.choice((0, 2, 7)))


class EventsTest(unittest.TestCase):

    def test_events(self):
        for event in (
            ("come", (0, 0, 0), 0), ("come", (5, 10 ** 12, 0), 10 ** 12), ("leave", 0), ("leave", 10 ** 12), ("weigh", 0, 0),
            ("weigh", 9, 10 ** 12),
        ):
            self.assertIs(is_event(FREE, event), True)
        for event in ODD + (
            ("come", (0, 0, 0)), ("come", (0, 0), 1), ("come", (0, 0, 0, 0), 1), ("come", [0, 0, 0], 1), ("come", (0, 0, -1), 1),
            ("come", (0, 0, False), 1), ("come", (0, 0, 0), True), ("come", (0, 0, 0), -1), ("come", (0, 0, 0), "1"),
            ("come", (0, 0, 0), 1, 1), ["come", (0, 0, 0), 1], ("Come", (0, 0, 0), 1), ("come", 0, 1), ("leave",),
            ("leave", 0, 0), ("leave", True), ("leave", -1), ("leave", (0,)), ("leave", None), ["leave", 0], ("weigh", 0),
            ("weigh", 0, -1), ("weigh", 0, True), ("weigh", False, 0), ("weigh", 0, 0, 0), ("weigh", (0, 0, 0), 1),
            ("come", ((0,), 0, 0), 1), (("leave", 0),), ("come", "000", 1), ("leave", [0]), (True, 0), (0, 0, 0),
            ("leave", "0"), (["leave"], 0), ("weigh", [0], 1), ("come", (0, 0, (0,)), 1), ("stay", 0), ("go", 0, 0),
        ):
            self.assertIs(is_event(FREE, event), False, event)
        self.assertIs(is_event(EMPTY, ("come", (), 5)), True)
        self.assertIs(is_event(ONE, ("come", (), 5)), False)
        self.assertIs(is_event(KEPT, ("come", (0, 0, 0), 1)), True)

    def test_logs(self):
        for log in ((), THREE, (("leave", 7),), (("leave", 0),) * 40):
            self.assertIs(is_log(FREE, log), True)
        for thing in ODD + (list(THREE), THREE[0], (("leave", True),), THREE + (None,), (THREE,), ((),), [("leave", 0)]):
            self.assertIs(is_log(FREE, thing), thing == () and type(thing) is tuple, thing)

    def test_coming(self):
        self.assertEqual(coming_log(FREE, LINE[:3], (3, 1, 1)), THREE)
        self.assertEqual(coming_log(FREE, (), ()), ())
        self.assertEqual(coming_log(EMPTY, ((),), (0,)), (("come", (), 0),))
        chance = chance_of(83)
        for ground in (FREE, KEPT, BASED, CHAINED, WHOLE):
            table = random_table(chance, ground, 120, 5)[:40]
            weights = tuple(chance.randint(0, 10 ** 12) for _ in table)
            log = coming_log(ground, table, weights)
            self.assertIs(is_log(ground, log), True)
            self.assertEqual(state_behind(ground, log), (table, weights, tuple(range(len(table))), len(table)))

    def test_example(self):
        self.assertEqual((is_event(FREE, ("leave", True)), is_log(FREE, (("leave", 7),))), (False, True))


class StatesTest(unittest.TestCase):

    def test_states(self):
        good = (LINE[:2], (3, 0), (2, 7), 8)
        for state in (NONE, ((), (), (), 10 ** 12), good, good[:3] + (10 ** 60,), (LINE[:1], (0,), (0,), 1)):
            self.assertIs(is_state(FREE, state), True, state)
        for state in ODD + (
            list(good), good[:3], good + (8,), (list(LINE[:2]),) + good[1:], good[:1] + ([3, 0],) + good[2:],
            good[:2] + ([2, 7], 8), good[:3] + (7,), good[:3] + (True,), good[:3] + ("8",), good[:2] + ((7, 2), 8),
            good[:2] + ((2, 2), 8), good[:2] + ((2,), 8), good[:2] + ((1, 2, 7), 8), good[:2] + ((True, 7), 8),
            good[:1] + ((3, True),) + good[2:], good[:1] + ((3,),) + good[2:], good[:1] + ((3, -1),) + good[2:],
            (LINE[:1] * 2,) + good[1:], (((0, 0, 0), (0, 1, True)),) + good[1:], (((0, 0), (0, 1)),) + good[1:],
            ((), (), (), -1), ((), (), (), None), ((), (), (0,), 1), (LINE[:2], (3, 0), (2, 8), 8), (None, None, None, None),
        ):
            self.assertIs(is_state(FREE, state), False, state)
        self.assertIs(is_state(KEPT, (LINE[1:3], (0, 0), (0, 1), 2)), False)
        self.assertIs(is_state(FREE, (LINE[1:3], (0, 0), (0, 1), 2)), True)

    def test_behind_events(self):
        chance = chance_of(84)
        seen = set()
        for ground in (FREE, KEPT, BASED, CHAINED, ONE, EMPTY, EMPTY_HELD, WHOLE) * 3:
            model, state, tried = Model(ground), NONE, []
            for _ in range(40):
                event = random_event(chance, ground, state[2])
                reason = model.reason(event)
                tried.append(event)
                self.assertEqual(
                    first_refused(ground, tuple(model.done) + (event,)), reason and (len(model.done), reason),
                )
                seen.add(reason)
                if reason is None:
                    model.done.append(event)
                    state = state_after(ground, state, event)
                    self.assertEqual(state, model.state())
                    self.assertEqual(state_behind(ground, tuple(model.done)), state)
                    self.assertIs(is_state(ground, state), True)
                    continue
                for call in (
                    lambda: state_after(ground, state, event), lambda: state_behind(ground, tuple(model.done) + (event,)),
                ):
                    with self.assertRaises(InvalidEvent) as caught:
                        call()
                    self.assertIs(caught.exception.event, event)
                    self.assertEqual(caught.exception.reason, reason)
        self.assertEqual(seen, {None, "name", "twice", "kept"})

    def test_states_that_no_log_made(self):
        state = (LINE[:2], (3, 0), (2, 7), 20)
        self.assertEqual(state_after(FREE, state, ("come", (9, 9, 9), 4)), (LINE[:2] + ((9, 9, 9),), (3, 0, 4), (2, 7, 20), 21))
        self.assertEqual(state_after(FREE, state, ("leave", 7)), (LINE[:1], (3,), (2,), 20))
        self.assertEqual(state_after(FREE, state, ("weigh", 7, 5)), (LINE[:2], (3, 5), (2, 7), 20))

    def test_events_that_are_none(self):
        # Ahead of everything else stands whether it is an event; then the very value is told.
        for event in ODD + (["leave", 0], ("leave", True), ("come", [0], 0), ("weigh", 0, True), ("come", (0, 0, True), 0)):
            with self.assertRaises(InvalidEvent, msg=event) as caught:
                state_after(FREE, NONE, event)
            self.assertIs(caught.exception.event, event)
            self.assertEqual(caught.exception.reason, "event")
        with self.assertRaises(NotUsable) as caught:
            state_after(FREE, [NONE], None)
        self.assertEqual((caught.exception.word, caught.exception.at), ("state", -1))

    def test_first_of_several_reasons(self):
        state = (((0, 1, 2), (1, 0, 0)), (5, 5), (0, 1), 2)
        for event, reason in (
            (("come", (0, 1, 2), 5), "twice"), (("come", (1, 1, 3), 5), "kept"), (("come", (0, 1, 2), True), "event"),
            (("leave", 2), "name"), (("weigh", 2, 5), "name"), (("weigh", 2, -5), "event"), (("come", (7, 0, 1), 0), "kept"),
        ):
            with self.assertRaises(InvalidEvent) as caught:
                state_after(KEPT, state, event)
            self.assertEqual((caught.exception.event, caught.exception.reason), (event, reason))
        self.assertEqual(first_refused(FREE, ()), None)
        self.assertEqual(first_refused(FREE, (("leave", 0), ("leave", 0))), (0, "name"))
        self.assertEqual(first_refused(FREE, THREE + (("leave", 1), ("leave", 1))), (4, "name"))
        self.assertEqual(state_behind(FREE, ()), NONE)
        # The row of a name that left is free again, but the name is not.
        self.assertEqual(state_behind(FREE, THREE[:1] + (("leave", 0),) + THREE[:1]), (((0, 0, 0),), (3,), (1,), 2))

    def test_example(self):
        begun = state_after(KEPT, NONE, ("come", (0, 1, 2), 5))
        self.assertEqual(begun, (((0, 1, 2),), (5,), (0,), 1))
        self.assertEqual(state_after(KEPT, begun, ("leave", 0)), ((), (), (), 1))
        self.assertEqual(first_refused(KEPT, (("come", (0, 1, 2), 5), ("come", (1, 1, 3), 5))), (1, "kept"))


class LiveTableTest(unittest.TestCase):

    def same(self, live, model, counts):
        state = model.state()
        self.assertEqual(live.state_now(), state)
        self.assertEqual((live.table_now(), live.weights_now(), live.names_now()), state[:3])
        self.assertEqual(live.log(), tuple(model.done))
        self.assertEqual(live.tally(), tuple(counts))
        self.assertEqual(state_behind(model.ground, live.log()), live.state_now())

    def refused(self, call, event, reason):
        with self.assertRaises(InvalidEvent) as caught:
            call()
        if event is not None:
            self.assertIs(caught.exception.event, event)
        self.assertEqual(caught.exception.reason, reason)

    def act(self, chance, live, model, counts):
        """One call, on the live table and on its model."""
        names = model.state()[2]
        kind = chance.choice(("go", "go", "own", "own", "all", "undo", "tried"))
        if kind == "undo":
            return self.undo(live, model, counts, chance.randint(1, 4))
        events = tuple(random_event(chance, model.ground, names) for _ in range(chance.randint(0, 4) if kind == "all" else 1))
        before, named, refused = list(model.done), [], None
        for event in events:
            reason = model.reason(event)
            if reason:
                refused = event, reason
                break
            named.append(model.state()[3] if event[0] == "come" else None)
            model.done.append(event)
        after, model.done = model.done, before
        if kind == "tried":
            self.tried(live, model, events[0], refused, after)
        elif refused:
            counts[2] += 1
            if kind == "own":
                self.own(live, events[0], refused)
            else:
                self.refused(lambda: live.do_all(events) if kind == "all" else live.go(events[0]), *refused)
        else:
            counts[0] += len(events)
            model.done = after
            if kind == "own":
                self.assertEqual(self.called(live, events[0]), named[0])
            else:
                self.assertEqual(live.do_all(events) if kind == "all" else (live.go(events[0]),), tuple(named))

    def called(self, live, event):
        return {"come": live.come, "leave": live.leave, "weigh": live.weigh}[event[0]](*event[1:])

    def own(self, live, event, refused):
        with self.assertRaises(InvalidEvent) as caught:
            self.called(live, event)
        self.assertEqual((caught.exception.event, caught.exception.reason), refused)
        self.assertIs(type(caught.exception.event), tuple)

    def tried(self, live, model, event, refused, after):
        if refused:
            self.refused(lambda: live.tried(event), *refused)
            return
        then = Model(model.ground)
        then.done = after
        table, weights, _, _ = then.state()
        self.assertEqual(live.tried(event), slow_heaviest(self.rule, table, weights, True))

    def undo(self, live, model, counts, steps):
        if steps > len(model.done):
            with self.assertRaises(NothingToUndo) as caught:
                live.undo(steps)
            self.assertEqual(caught.exception.steps, steps)
            return
        self.assertIsNone(live.undo(steps))
        del model.done[len(model.done) - steps:]
        counts[1] += steps

    def test_against_a_model(self):
        chance = chance_of(85)
        for ground in (FREE, KEPT, CHAINED, BASED, ONE, EMPTY, WHOLE) * 2:
            self.rule = told_rule_of(ground, random_chain(chance, ground))
            live, model, counts = LiveTable(ground, self.rule), Model(ground), [0, 0, 0]
            self.assertEqual(live.about(), (ground, self.rule))
            for _ in range(60):
                self.act(chance, live, model, counts)
                self.same(live, model, counts)
                if len(model.state()[0]) > 8 or len(model.done) > 35:
                    self.undo(live, model, counts, chance.randint(1, len(model.done)))

    def test_undo(self):
        live = LiveTable(FREE, LESSON)
        self.assertEqual((live.state_now(), live.log(), live.tally()), (NONE, (), (0, 0, 0)))
        with self.assertRaises(NothingToUndo) as caught:
            live.undo()
        self.assertEqual(caught.exception.steps, 1)
        live.do_all(THREE)
        for steps in (4, 10 ** 60):
            with self.assertRaises(NothingToUndo) as caught:
                live.undo(steps)
            self.assertEqual(caught.exception.steps, steps)
        for steps in (0, -1, True, False, None, "1", (1,), [1]):
            with self.assertRaises(NotUsable) as caught:
                live.undo(steps)
            self.assertEqual((caught.exception.word, caught.exception.at), ("steps", -1))
        self.assertEqual((live.log(), live.tally()), (THREE, (3, 0, 0)))
        live.undo()
        self.assertEqual((live.log(), live.tally(), live.names_now()), (THREE[:2], (3, 1, 0), (0, 1)))
        # Coming, too, is as it was, so the name is given again.
        self.assertEqual(live.come((5, 5, 5), 1), 2)
        live.undo(steps=3)
        self.assertEqual((live.state_now(), live.log(), live.tally()), (NONE, (), (4, 4, 0)))
        self.assertEqual(live.come((5, 5, 5), 1), 0)

    def test_rows_that_come_again(self):
        live = LiveTable(FREE, LESSON)
        self.assertEqual((live.come((0, 0, 0), 3), live.leave(0), live.come((0, 0, 0), 3)), (0, None, 1))
        self.assertEqual(live.state_now(), (((0, 0, 0),), (3,), (1,), 2))
        live.undo(2)
        self.assertEqual(live.state_now(), (((0, 0, 0),), (3,), (0,), 1))
        self.refused(lambda: live.come((0, 0, 0), 3), None, "twice")

    def test_do_all_or_none(self):
        live = LiveTable(FREE, LESSON)
        for events, event, reason in (
            (THREE[:2] + (("leave", 5),) + THREE[2:], ("leave", 5), "name"), (THREE + THREE[:1], THREE[0], "twice"),
            ((None,), None, "event"), (THREE + (["leave", 0],), ["leave", 0], "event"),
        ):
            with self.assertRaises(InvalidEvent) as caught:
                live.do_all(events)
            self.assertEqual((caught.exception.event, caught.exception.reason), (event, reason))
            self.assertEqual((live.state_now(), live.log()), (NONE, ()))
        self.assertEqual(live.tally(), (0, 0, 4))
        self.assertEqual(live.do_all(()), ())
        self.assertEqual(live.do_all(THREE + (("leave", 0),) + THREE[:1]), (0, 1, 2, None, 3))
        self.assertEqual(live.tally(), (5, 0, 4))
        for events in (None, 0, [], list(THREE), "", {}):
            with self.assertRaises(NotUsable) as caught:
                live.do_all(events)
            self.assertEqual((caught.exception.word, caught.exception.at), ("events", -1))
        self.assertEqual(live.tally(), (5, 0, 4))

    def test_tried_changes_nothing(self):
        live = LiveTable(FREE, LESSON)
        live.do_all(THREE)
        before = live.state_now(), live.log(), live.tally()
        self.assertEqual(live.tried(("leave", 0)), 2)
        self.assertEqual(live.tried(("come", (0, 7, 7), 10)), 14)
        for event, reason in ((("leave", 9), "name"), (THREE[0], "twice"), (None, "event"), (["leave", 0], "event")):
            self.refused(lambda: live.tried(event), event, reason)
        self.assertEqual((live.state_now(), live.log(), live.tally()), before)

    def test_any_values(self):
        live, refused = LiveTable(FREE, LESSON), 0
        live.do_all(THREE)
        for thing in ODD + (live,):
            for call, event in (
                (lambda: live.go(thing), thing), (lambda: live.come(thing, 1), ("come", thing, 1)),
                (lambda: live.come((7, 7, 7), thing), ("come", (7, 7, 7), thing)), (lambda: live.leave(thing), ("leave", thing)),
                (lambda: live.weigh(thing, 1), ("weigh", thing, 1)), (lambda: live.weigh(0, thing), ("weigh", 0, thing)),
            ):
                if is_event(FREE, event) and event != ("leave", 10 ** 60) and event[:2] != ("weigh", 10 ** 60):
                    continue
                with self.assertRaises(InvalidEvent) as caught:
                    call()
                refused += 1
                self.assertEqual(caught.exception.event, event)
                self.assertEqual(caught.exception.reason, "name" if is_event(FREE, event) else "event")
        self.assertEqual((live.log(), live.tally()), (THREE, (3, 0, refused)))

    def test_forty_events(self):
        live = LiveTable(FREE, LESSON)
        for k in range(40):
            self.assertEqual(live.come((k, k, k), 10 ** 12), k)
        self.assertEqual((len(live.log()), live.tally(), live.names_now()), (40, (40, 0, 0), tuple(range(40))))
        live.undo(40)
        self.assertEqual((live.log(), live.tally(), live.state_now()), ((), (40, 40, 0), NONE))

    def test_made(self):
        for things, word in (
            ((None, None), "ground"), (((3, []), ()), "ground"), ((FREE, [()]), "rule"), ((FREE, ((0, 1, 2),)), "rule"),
        ):
            with self.assertRaises(NotUsable) as caught:
                LiveTable(*things)
            self.assertEqual((caught.exception.word, caught.exception.at), (word, -1))
        for rule in (PAIRS, MUX):
            with self.assertRaises(Refused) as caught:
                LiveTable(FREE, rule)
            self.assertTrue(is_triple(FREE, rule, caught.exception.triple))
        one, other = LiveTable(FREE, LESSON), LiveTable(FREE, LESSON)
        one.come((0, 0, 0), 1)
        self.assertEqual((other.state_now(), other.log(), other.tally()), (NONE, (), (0, 0, 0)))

    def test_loads_and_weights(self):
        # How the load changes by one event.
        chance = chance_of(92)
        for ground in (FREE, KEPT, CHAINED):
            rule = told_rule_of(ground, random_chain(chance, ground))
            live = LiveTable(ground, rule)
            for _ in range(30):
                event = random_event(chance, ground, live.names_now())
                if first_refused(ground, live.log() + (event,)) is None:
                    load = load_of(ground, rule, live.table_now(), live.weights_now())
                    weights = dict(zip(live.names_now(), live.weights_now()))
                    then = live.tried(event)
                    if event[0] == "come":
                        self.assertTrue(load <= then <= load + event[2])
                    elif event[0] == "leave":
                        self.assertTrue(load - weights[event[1]] <= then <= load)
                    live.go(event)
                    self.assertEqual(load_of(ground, rule, live.table_now(), live.weights_now()), then)

    def test_example(self):
        live = LiveTable(FREE, LESSON)
        self.assertEqual(live.do_all(THREE), (0, 1, 2))
        self.assertEqual((live.tried(("weigh", 1, 4)), live.leave(1), live.come((0, 2, 2), 2)), (7, None, 3))
        self.assertEqual((live.names_now(), live.tally()), ((0, 2, 3), (5, 0, 0)))


if __name__ == "__main__":
    unittest.main()
