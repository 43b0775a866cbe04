"""How much more of their shares all rows alike can be given in a time."""

from alikeclash.clashes import need_rule_and_table
from alikeclash.finding import chain_of
from alikeclash.helpers import need
from alikeclash.kinds import is_shares
from alikeclash.quotients import at_most, minus, over, plus
from alikeclash.sharing import fullest_quarrel, is_share, let_within, sum_of_shares


def equal_more(ground, rule, table, shares, time):
    """The greatest raise of all shares alike, and a quarrel whose sum is the time then."""
    need_rule_and_table(ground, rule, table)
    need(table != (), "table")
    need(is_shares(len(table), shares), "shares")
    need(is_share(time), "time")
    chain = chain_of(ground, rule)
    let_within(chain, table, shares, time)
    group = (0,)
    while True:
        # This group allows no greater raise. A quarrel that is above the time with it allows only a lesser one.
        more = over(minus(time, sum_of_shares(shares, group)), (len(group), 1))
        raised = tuple([plus(share, more) for share in shares])
        quarrel = fullest_quarrel(chain, table, raised)
        if at_most(sum_of_shares(raised, quarrel), time):
            return more, group
        group = quarrel
