"""Hours for shares with a number of rooms."""

from alikeclash.errors import Blocked
from alikeclash.finding import chain_of
from alikeclash.formulas import formula_for, is_rooms, pairs_of_rows
from alikeclash.helpers import need
from alikeclash.quotients import at_most, times
from alikeclash.roomplans import even_pieces
from alikeclash.sharing import (
    common_bottom, hours_over, is_share, let_within, need_shared, sum_of_shares, tops_over,
)


def room_hours(ground, rule, table, shares, rooms, time):
    """Hours for the shares of length at most time, with at most so many rows in each group."""
    need_shared(ground, rule, table, shares)
    need(is_rooms(rooms), "rooms")
    need(is_share(time), "time")
    pairs = pairs_of_rows(ground, rule, table)
    # A rule that at most two lots tell has a chain, so nothing is refused here.
    let_within(chain_of(ground, rule), table, shares, time)
    everyone = tuple(range(len(table)))
    if not at_most(sum_of_shares(shares, everyone), times((rooms, 1), time)):
        raise Blocked(everyone)
    # Over this bottom the sum of all shares can be parted by the rooms, so the formula is not rounded.
    bottom = common_bottom(shares) * rooms
    tops = tops_over(shares, bottom)
    return hours_over(bottom, even_pieces(pairs, tops, formula_for(pairs, tops, rooms)))
