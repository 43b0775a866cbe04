import unittest

from alikeclash.errors import InvalidText, NotUsable
from alikeclash.eventlines import event_line, log_text
from alikeclash.eventreadings import read_event, read_log
from tests.samples import CHAINED, EMPTY, FREE, KEPT, ODD, ONE, WHOLE, WIDE, chance_of
from tests.test_live import THREE


def random_log(chance, ground, many):
    """Events of the ground that need not be done one behind the other."""
    events = []
    for _ in range(many):
        numbers = [chance.choice((0, 1, 10, 907, 10 ** 12)) for _ in range(ground[0] + 2)]
        events.append(chance.choice((
            ("come", tuple(numbers[:ground[0]]), numbers[-1]), ("leave", numbers[-1]), ("weigh", numbers[-1], numbers[-2]),
        )))
    return tuple(events)


def slow_line(event):
    if event[0] == "come":
        return "come " + "".join(f"{number} " for number in event[1]) + f"with {event[2]}"
    return f"leave {event[1]}" if event[0] == "leave" else f"weigh {event[1]} as {event[2]}"


class EventLinesTest(unittest.TestCase):

    def test_there_and_back(self):
        chance = chance_of(89)
        for ground in (FREE, KEPT, CHAINED, ONE, EMPTY, WHOLE, WIDE) * 4:
            for many in (0, 1, 2, 40):
                log = random_log(chance, ground, many)
                text = log_text(ground, log)
                self.assertEqual(text, "\n".join(slow_line(event) for event in log))
                self.assertEqual(read_log(ground, text), log)
                self.assertEqual(log_text(ground, read_log(ground, text)), text)
                for event in log[:3]:
                    line = event_line(ground, event)
                    self.assertEqual(line, slow_line(event))
                    self.assertEqual(read_event(ground, line), event)

    def test_edges(self):
        self.assertEqual(event_line(EMPTY, ("come", (), 5)), "come with 5")
        self.assertEqual(read_event(EMPTY, "come with 5"), ("come", (), 5))
        self.assertEqual(event_line(FREE, ("come", (0, 0, 0), 0)), "come 0 0 0 with 0")
        self.assertEqual((log_text(FREE, ()), read_log(FREE, "")), ("", ()))
        # What is read need not be done.
        self.assertEqual(read_log(KEPT, "leave 7\nleave 7"), (("leave", 7), ("leave", 7)))

    def test_what_are_no_events(self):
        for thing in ODD + (("leave", True), ("come", (0, 0), 1), ["leave", 0]):
            with self.assertRaises(NotUsable) as caught:
                event_line(FREE, thing)
            self.assertEqual((caught.exception.word, caught.exception.at), ("event", -1))
            with self.assertRaises(NotUsable) as caught:
                log_text(FREE, THREE + (thing,))
            self.assertEqual((caught.exception.word, caught.exception.at), ("log", -1))

    def test_wrong_lines(self):
        for text, field in (
            ("", 0), (" ", 0), (" leave 0", 0), ("leave", 1), ("leave ", 1), ("leave  0", 1), ("leave 0 ", 2), ("leave 0 0", 2),
            ("leave 00", 1), ("leave 01", 1), ("leave -1", 1), ("leave +1", 1), ("leave x", 1), ("leave 1x", 1), ("Leave 0", 0),
            ("leaves 0", 0), ("0", 0), ("come", 1), ("come ", 1), ("come 0", 2), ("come 0 0", 3), ("come 0 0 0", 4),
            ("come 0 0 0 with", 5), ("come 0 0 0 with ", 5), ("come 0 0 0 with x", 5), ("come 0 0 0 with 01", 5),
            ("come 0 0 0 with 1 ", 6), ("come 0 0 0 with 1 1", 6), ("come 0 0 0 0 with 1", 4), ("come 0 0 with 1", 3),
            ("come with 1", 1), ("come 0 0 0 as 1", 4), ("come 0 0 0  with 1", 4), ("come 0 00 0 with 1", 2), ("come 0, 0 0", 1),
            ("come 0 0 0 with", 5), ("weigh", 1), ("weigh 0", 2), ("weigh 0 as", 3), ("weigh 0 as ", 3), ("weigh 0 with 1", 2),
            ("weigh 0 1", 2), ("weigh as 1", 1), ("weigh 0 as 1 1", 4), ("weigh 0 as 01", 3), ("weigh  0 as 1", 1),
            ("weigh 0  as 1", 2), ("weigh 0 As 1", 2), ("stay", 0), ("come come", 1), ("leave leave", 1), ("   ", 0),
        ):
            for reading in (read_event, read_log) if text else (read_event,):
                with self.assertRaises(InvalidText, msg=text) as caught:
                    reading(FREE, text)
                self.assertEqual((caught.exception.line, caught.exception.field), (0, field), text)
            with self.assertRaises(InvalidText, msg=text) as caught:
                read_log(FREE, "weigh 0 as 10\nleave 4\n" + text + "\nleave")
            self.assertEqual((caught.exception.line, caught.exception.field), (2, field), text)
        for ground, text, field in (
            (EMPTY, "come", 1), (EMPTY, "come 0 with 1", 1), (EMPTY, "come  with 1", 1), (ONE, "come with 1", 1),
            (ONE, "come 0 0 with 1", 2), (WIDE, "come 0 1 2 3 4 5 6 with 1", 8), (WIDE, "come 0 1 2 3 4 5 6 7", 9),
        ):
            with self.assertRaises(InvalidText, msg=text) as caught:
                read_event(ground, text)
            self.assertEqual((caught.exception.line, caught.exception.field), (0, field), text)

    def test_empty_lines(self):
        for text, line in (
            ("\n", 0), ("leave 0\n", 1), ("\nleave 0", 0), ("leave 0\n\nleave 1", 1), ("leave 0\nleave 1\n\n", 2), ("\n\n", 0),
        ):
            with self.assertRaises(InvalidText, msg=text) as caught:
                read_log(FREE, text)
            self.assertEqual((caught.exception.line, caught.exception.field), (line, 0))

    def test_long_texts(self):
        log = tuple(("come", (10 ** 12 - k,) * 8, 10 ** 12) for k in range(40))
        self.assertEqual(read_log(WIDE, log_text(WIDE, log)), log)

    def test_example(self):
        self.assertEqual(read_event(FREE, "come 0 2 2 with 2"), ("come", (0, 2, 2), 2))
        self.assertEqual(read_event(FREE, "weigh 3 as 0"), ("weigh", 3, 0))
        for reading, text, told in ((read_event, "come 0 2 with 2", (0, 3)), (read_log, "leave 4\nleave", (1, 1))):
            with self.assertRaises(InvalidText) as caught:
                reading(FREE, text)
            self.assertEqual((caught.exception.line, caught.exception.field), told)


if __name__ == "__main__":
    unittest.main()
