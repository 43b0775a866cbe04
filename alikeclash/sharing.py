"""Shares of rows, which are quotients, reckoned as tops over one bottom that all have in common."""

from math import lcm

from alikeclash.clashes import need_rule_and_table
from alikeclash.errors import Blocked
from alikeclash.helpers import need
from alikeclash.kinds import is_quotient, is_shares
from alikeclash.nesting import heaviest_quarrel, quarrel_with, weight_of
from alikeclash.quotients import at_most, lowest


def need_shared(ground, rule, table, shares):
    """Refuse what is no rule, no table of the ground, or no shares of the table."""
    need_rule_and_table(ground, rule, table)
    need(is_shares(len(table), shares), "shares")


def is_share(thing):
    """Whether any value is a quotient of at least 0."""
    return is_quotient(thing) and thing[0] >= 0


def common_bottom(shares):
    """The least number that is a bottom for all shares."""
    bottom = 1
    for share in shares:
        bottom = lcm(bottom, share[1])
    return bottom


def tops_over(shares, bottom):
    """The tops that the shares have over this bottom, which is one for all of them."""
    return tuple([share[0] * (bottom // share[1]) for share in shares])


def sum_of_shares(shares, group):
    """The sum of the shares of the group."""
    bottom = common_bottom(shares)
    return lowest(weight_of(tops_over(shares, bottom), group), bottom)


def hours_over(bottom, pieces):
    """The hours of pieces whose lengths are tops over the bottom."""
    return tuple([(lowest(length, bottom), group) for length, group in pieces])


def fullest_quarrel(chain, table, shares):
    """A quarrel with the greatest sum, by the rule that the chain says."""
    return heaviest_quarrel(chain, table, tops_over(shares, common_bottom(shares)))


def fullest_with(chain, table, shares, row):
    """A quarrel with the greatest sum of those that have the row."""
    return quarrel_with(chain, table, tops_over(shares, common_bottom(shares)), row)


def let_within(chain, table, shares, time):
    """Tell a quarrel with a sum above the time if there is one."""
    quarrel = fullest_quarrel(chain, table, shares)
    if not at_most(sum_of_shares(shares, quarrel), time):
        raise Blocked(quarrel)
