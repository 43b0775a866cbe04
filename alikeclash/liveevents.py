"""Events of live tables, and logs of them."""

from alikeclash.helpers import is_tuple_of, need
from alikeclash.kinds import is_number, is_weights
from alikeclash.tables import is_row, is_table


def is_event(ground, thing):
    """Whether thing is an event of the ground."""
    if is_tuple_of(2, thing):
        return thing[0] == "leave" and is_number(thing[1])
    if not is_tuple_of(3, thing) or not is_number(thing[2]):
        return False
    if thing[0] == "come":
        return is_row(ground, thing[1])
    return thing[0] == "weigh" and is_number(thing[1])


def is_log(ground, thing):
    """Whether thing is a tuple of events of the ground."""
    return isinstance(thing, tuple) and all([is_event(ground, event) for event in thing])


def coming_log(ground, table, weights):
    """The log in which the rows of the table come, each with its weight."""
    need(is_table(ground, table), "table")
    need(is_weights(len(table), weights), "weights")
    return tuple([("come", row, weight) for row, weight in zip(table, weights)])
