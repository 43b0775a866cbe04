"""Hours for shares, as long as the greatest sum of a quarrel."""

from alikeclash.finding import chain_of
from alikeclash.helpers import need
from alikeclash.peeling import peeled_pieces
from alikeclash.sharing import (
    common_bottom, fullest_quarrel, hours_over, is_share, let_within, need_shared, sum_of_shares, tops_over,
)


def heaviest_sum(ground, rule, table, shares):
    """The greatest sum of a quarrel."""
    need_shared(ground, rule, table, shares)
    return sum_of_shares(shares, fullest_quarrel(chain_of(ground, rule), table, shares))


def hours_for(ground, rule, table, shares, time):
    """Hours for the shares of length at most time; Blocked tells a quarrel that needs more."""
    need_shared(ground, rule, table, shares)
    need(is_share(time), "time")
    chain = chain_of(ground, rule)
    let_within(chain, table, shares, time)
    return shortest_hours(chain, table, shares)


def shortest_hours(chain, table, shares):
    """Hours for the shares, as long as the greatest sum of a quarrel by the chain."""
    bottom = common_bottom(shares)
    return hours_over(bottom, peeled_pieces(chain, table, tops_over(shares, bottom)))
