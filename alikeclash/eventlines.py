"""Lines of events, and texts of logs."""

from alikeclash.helpers import need
from alikeclash.liveevents import is_event, is_log


def event_line(ground, event):
    """The line of the event."""
    need(is_event(ground, event), "event")
    return line_of_event(event)


def log_text(ground, log):
    """The lines of the log."""
    need(is_log(ground, log), "log")
    return "\n".join([line_of_event(event) for event in log])


def line_of_event(event):
    """The line of an event."""
    if event[0] == "come":
        return " ".join(["come"] + [str(number) for number in event[1]] + ["with", str(event[2])])
    if event[0] == "weigh":
        return f"weigh {event[1]} as {event[2]}"
    return f"leave {event[1]}"
