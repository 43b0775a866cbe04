"""Lotteries: hours of length at most 1, of which a number draws a group."""

from alikeclash.helpers import need
from alikeclash.hourkinds import are_hours, standing_at, sum_of_lengths
from alikeclash.hourplans import hours_for
from alikeclash.pieces import is_number_set
from alikeclash.quotients import at_most
from alikeclash.sharing import is_share

ONE = (1, 1)


def lottery_of(ground, rule, table, shares):
    """Hours for the shares of length at most 1."""
    return hours_for(ground, rule, table, shares, ONE)


def drawn_by(hours_told, number):
    """The group that stands at the moment number of a lottery."""
    need(are_hours(hours_told) and at_most(sum_of_lengths(hours_told), ONE), "hours_told")
    need(is_share(number) and not at_most(ONE, number), "number")
    return standing_at(hours_told, number)


def sureness_of(hours_told, group):
    """The sum of the lengths of the pieces whose group has all numbers of the group."""
    need(are_hours(hours_told), "hours_told")
    need(is_number_set(group), "group")
    return sum_of_lengths([piece for piece in hours_told if all([row in piece[1] for row in group])])
