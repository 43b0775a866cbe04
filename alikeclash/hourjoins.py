"""Hours put behind one another, shortened, mixed, without a row, and merged."""

from alikeclash.helpers import need
from alikeclash.hourkinds import are_hours
from alikeclash.kinds import is_number
from alikeclash.quotients import at_most, minus, plus, times
from alikeclash.sharing import is_share

ONE = (1, 1)


def hours_behind(one, other):
    """The pieces of one, and behind them those of the other."""
    need(are_hours(one), "one")
    need(are_hours(other), "other")
    return one + other


def shortened(hours_told, part):
    """The pieces with each length multiplied by the part."""
    need(are_hours(hours_told), "hours_told")
    need(is_part(part), "part")
    return part_of_hours(hours_told, part)


def mixed_hours(one, other, part):
    """One shortened to the part, and behind it the other shortened to what is left of 1."""
    need(are_hours(one), "one")
    need(are_hours(other), "other")
    need(is_part(part), "part")
    return part_of_hours(one, part) + part_of_hours(other, minus(ONE, part))


def hours_without(hours_told, row):
    """The pieces without the row, those of the row alone left out."""
    need(are_hours(hours_told), "hours_told")
    need(is_number(row), "row")
    rests = [(length, tuple([other for other in group if other != row])) for length, group in hours_told]
    return tuple([rest for rest in rests if rest[1] != ()])


def merged_hours(hours_told):
    """The pieces, neighbours of one group made one."""
    need(are_hours(hours_told), "hours_told")
    merged = []
    for length, group in hours_told:
        if merged and merged[-1][1] == group:
            merged[-1] = (plus(merged[-1][0], length), group)
        else:
            merged.append((length, group))
    return tuple(merged)


def is_part(thing):
    """Whether any value is a quotient of at least 0 and at most 1."""
    return is_share(thing) and at_most(thing, ONE)


def part_of_hours(hours_told, part):
    """The hours shortened to the part; pieces of no length are no pieces."""
    if part[0] == 0:
        return ()
    return tuple([(times(length, part), group) for length, group in hours_told])
