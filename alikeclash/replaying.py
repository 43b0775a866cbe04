"""Live tables made anew from logs."""

from alikeclash.helpers import need
from alikeclash.live import LiveTable
from alikeclash.liveasks import load_now
from alikeclash.liveevents import is_log
from alikeclash.rules import is_rule


def replayed(ground, rule, log):
    """A new live table that has done the events of the log."""
    live = begun_for(ground, rule, log)
    for event in log:
        live.go(event)
    return live


def loads_through(ground, rule, log):
    """The loads behind each event."""
    live = begun_for(ground, rule, log)
    loads = []
    for event in log:
        live.go(event)
        loads.append(load_now(live))
    return tuple(loads)


def begun_for(ground, rule, log):
    """A new live table, if the rule and the log are as stated."""
    need(is_rule(ground, rule), "rule")
    need(is_log(ground, log), "log")
    return LiveTable(ground, rule)
