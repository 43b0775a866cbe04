"""Hours: groups of rows for lengths that are quotients, gone through one behind the other."""

from alikeclash.helpers import is_tuple_of, need
from alikeclash.kinds import is_group, is_number, is_quotient
from alikeclash.pieces import is_filled_group
from alikeclash.quotients import at_most, plus
from alikeclash.sharing import is_share

NOUGHT = (0, 1)


def is_hours(many, thing):
    """Whether thing is hours of a table of many rows, whatever clashes."""
    return are_hours(thing) and all([is_group(many, group) for _, group in thing])


def hours_length(hours_told):
    """The sum of all lengths."""
    need(are_hours(hours_told), "hours_told")
    return sum_of_lengths(hours_told)


def share_in(hours_told, row):
    """The sum of the lengths of the pieces with the row in their group."""
    need(are_hours(hours_told), "hours_told")
    need(is_number(row), "row")
    return sum_of_lengths([piece for piece in hours_told if row in piece[1]])


def standing_at(hours_told, moment):
    """The group that is gone through at the moment, () from the length of the hours on."""
    need(are_hours(hours_told), "hours_told")
    need(is_share(moment), "moment")
    end = NOUGHT
    for length, group in hours_told:
        end = plus(end, length)
        if not at_most(end, moment):
            return group
    return ()


def changes_of(hours_told, row):
    """The stretches, as pairs of moments, in which the row stands."""
    need(are_hours(hours_told), "hours_told")
    need(is_number(row), "row")
    stretches = []
    begin = NOUGHT
    for length, group in hours_told:
        end = plus(begin, length)
        if row in group and stretches and stretches[-1][1] == begin:
            stretches[-1] = (stretches[-1][0], end)
        elif row in group:
            stretches.append((begin, end))
        begin = end
    return tuple(stretches)


def are_hours(thing):
    """Whether any value is hours of some number of rows."""
    return isinstance(thing, tuple) and all([is_stretch(part) for part in thing])


def is_stretch(thing):
    """Whether any value is a pair of a quotient above 0 and a group that is not empty."""
    if not is_tuple_of(2, thing) or not is_quotient(thing[0]) or thing[0][0] < 1:
        return False
    return is_filled_group(thing[1])


def sum_of_lengths(pieces):
    """The sum of the lengths of the pieces of hours."""
    total = NOUGHT
    for length, _ in pieces:
        total = plus(total, length)
    return total
