"""The checker of hours for shares, and of quarrels that show that there are none."""

from alikeclash.clashes import all_pairs_are
from alikeclash.errors import InvalidPaper
from alikeclash.helpers import is_tuple_of, need
from alikeclash.hourkinds import is_stretch, share_in, sum_of_lengths
from alikeclash.kinds import is_group
from alikeclash.quotients import at_most
from alikeclash.sharing import is_share, need_shared, sum_of_shares


def lets_hours(ground, rule, table, shares, time, thing):
    """Accept hours for the shares and return how many pieces; or a quarrel above the time and return -1."""
    need_shared(ground, rule, table, shares)
    need(is_share(time), "time")
    if not isinstance(thing, tuple):
        raise InvalidPaper("shape", -1)
    if is_tuple_of(2, thing) and thing[0] == "blocked":
        let_blocked(rule, table, shares, time, thing[1])
        return -1
    for k, piece in enumerate(thing):
        if not is_stretch(piece) or not is_group(len(table), piece[1]):
            raise InvalidPaper("piece", k)
        if not all_pairs_are(rule, table, piece[1], False):
            raise InvalidPaper("clash", k)
    for row in range(len(table)):
        if share_in(thing, row) != shares[row]:
            raise InvalidPaper("given", row)
    if not at_most(sum_of_lengths(thing), time):
        raise InvalidPaper("length", -1)
    return len(thing)


def let_blocked(rule, table, shares, time, group):
    """Accept a quarrel with a sum above the time."""
    if not is_group(len(table), group) or not all_pairs_are(rule, table, group, True):
        raise InvalidPaper("group", 1)
    if at_most(sum_of_shares(shares, group), time):
        raise InvalidPaper("sum", -1)
