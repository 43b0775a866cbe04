"""The checker of heaviest matchings, and of the prices that show them to be heaviest."""

from alikeclash.errors import InvalidPaper
from alikeclash.helpers import is_tuple_of, need
from alikeclash.kinds import is_number
from alikeclash.sidewebs import ends_at, ends_of, is_side_web


def lets_matching(web, thing):
    """Accept a heaviest matching of the web with its prices, and return its weight."""
    need(is_side_web(web), "web")
    if not is_tuple_of(2, thing) or not all([isinstance(part, tuple) for part in thing]):
        raise InvalidPaper("shape", -1)
    matching, prices = thing
    let_ties(web, matching)
    let_prices(web, prices)
    let_no_low_tie(web, prices)
    weight = sum([web[tie][2] for tie in matching])
    if sum([price for _, price in prices]) != weight:
        raise InvalidPaper("sum", -1)
    return weight


def is_matching(web, thing):
    """Whether thing is a matching of the web."""
    if not isinstance(thing, tuple):
        return False
    try:
        let_ties(web, thing)
    except InvalidPaper:
        return False
    return True


def are_prices(web, thing):
    """Whether thing has a price for each end of the web, and no tie weighs more than both its ends' prices."""
    if not isinstance(thing, tuple):
        return False
    try:
        let_prices(web, thing)
        let_no_low_tie(web, thing)
    except InvalidPaper:
        return False
    return True


def let_ties(web, matching):
    """Accept a tuple of ties' numbers that ascend, no two of them with a common end."""
    taken = set()
    for k, tie in enumerate(matching):
        if not is_number(tie) or tie >= len(web) or (k > 0 and tie <= matching[k - 1]):
            raise InvalidPaper("tie", k)
        for end in ends_at(web[tie]):
            if end in taken:
                raise InvalidPaper("end", k)
            taken.add(end)


def let_prices(web, prices):
    """Accept a tuple of the pairs of an end and its price, for all ends as they ascend."""
    ends = ends_of(web)
    for k in range(max(len(ends), len(prices))):
        if k >= min(len(ends), len(prices)) or not is_price_of(ends[k], prices[k]):
            raise InvalidPaper("price", k)


def let_no_low_tie(web, prices):
    """Accept prices of the ends that add up to at least the weight of each tie."""
    price_at = {end: price for end, price in prices}
    for k, tie in enumerate(web):
        if sum([price_at[end] for end in ends_at(tie)]) < tie[2]:
            raise InvalidPaper("low", k)


def is_price_of(end, thing):
    """Whether thing is the pair of the end and a number."""
    if not is_tuple_of(2, thing) or not is_tuple_of(2, thing[0]):
        return False
    return thing[0] == end and is_number(thing[0][1]) and is_number(thing[1])
