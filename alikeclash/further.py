"""How much more of its share a row can be given in a time."""

from alikeclash.finding import chain_of
from alikeclash.helpers import need
from alikeclash.quotients import minus
from alikeclash.sharing import fullest_with, is_share, let_within, need_shared, sum_of_shares
from alikeclash.tables import is_row_number


def further_share(ground, rule, table, shares, time, row):
    """How much the share of the row can be raised at most, the others kept."""
    quarrel = barring_quarrel(ground, rule, table, shares, time, row)
    return minus(time, sum_of_shares(shares, quarrel))


def barring_quarrel(ground, rule, table, shares, time, row):
    """A quarrel with the row whose sum is the time once the share is raised so much."""
    need_shared(ground, rule, table, shares)
    need(is_share(time), "time")
    need(is_row_number(table, row), "row")
    chain = chain_of(ground, rule)
    let_within(chain, table, shares, time)
    return fullest_with(chain, table, shares, row)
