"""States of live tables, and how events change them."""

from alikeclash.errors import InvalidEvent
from alikeclash.helpers import is_tuple_of, need
from alikeclash.kinds import is_number, is_weights
from alikeclash.liveevents import is_event, is_log
from alikeclash.pieces import is_number_set
from alikeclash.tables import first_misfit, is_table

EMPTY_STATE = ((), (), (), 0)


def is_state(ground, thing):
    """Whether thing is a state of the ground."""
    if not is_tuple_of(4, thing):
        return False
    table, weights, names, coming = thing
    if not is_table(ground, table) or not is_weights(len(table), weights):
        return False
    if not is_number_set(names) or len(names) != len(table):
        return False
    return is_number(coming) and all([name < coming for name in names])


def state_after(ground, state, event):
    """The state behind the event; InvalidEvent tells why it is refused."""
    need(is_state(ground, state), "state")
    return moved_state(ground, state, event)


def state_behind(ground, log):
    """The state to which the log leads from the empty one."""
    need(is_log(ground, log), "log")
    state = EMPTY_STATE
    for event in log:
        state = moved_state(ground, state, event)
    return state


def first_refused(ground, log):
    """The number of the first event that is refused, and the reason; or None."""
    need(is_log(ground, log), "log")
    state = EMPTY_STATE
    for k, event in enumerate(log):
        reason = reason_against(ground, state, event)
        if reason is not None:
            return k, reason
        state = moved_state(ground, state, event)
    return None


def moved_state(ground, state, event):
    """What state_after returns for a state."""
    reason = reason_against(ground, state, event)
    if reason is not None:
        raise InvalidEvent(event, reason)
    table, weights, names, coming = state
    if event[0] == "come":
        return table + (event[1],), weights + (event[2],), names + (coming,), coming + 1
    row = names.index(event[1])
    if event[0] == "weigh":
        return table, weights[:row] + (event[2],) + weights[row + 1:], names, coming
    return table[:row] + table[row + 1:], weights[:row] + weights[row + 1:], names[:row] + names[row + 1:], coming


def reason_against(ground, state, event):
    """Why the event, which may be any value, is refused in the state; or None."""
    if not is_event(ground, event):
        return "event"
    table, _, names, _ = state
    if event[0] != "come":
        return None if event[1] in names else "name"
    if event[1] in table:
        return "twice"
    return None if first_misfit(ground, table + (event[1],)) is None else "kept"
