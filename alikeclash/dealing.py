"""Ties dealt out in time: by matchings one behind the other, or end by end by prices."""

from alikeclash.helpers import need
from alikeclash.matchchecker import are_prices
from alikeclash.pricing import Pricing
from alikeclash.sidewebs import ends_at, is_side_web, sums_by_end


def dealt_ties(web):
    """Pieces that give each tie its weight, as long as the greatest sum at one end."""
    need(is_side_web(web), "web")
    due = {tie: web[tie][2] for tie in range(len(web))}
    pieces = []
    while due:
        sums = sums_due(web, due)
        longest = max(list(sums.values()))
        group = ties_for_ends(web, list(due), [end for end in sums if sums[end] == longest])
        length = min(spans_beside(web, due, longest, group))
        pieces.append((length, group))
        due = due_behind(due, length, group)
    return tuple(pieces)


def sums_due(web, due):
    """For each end what its ties still are to be given, due telling this of the ties."""
    return sums_by_end([web[tie][:2] + (due[tie],) for tie in due])


def spans_beside(web, due, left, group):
    """For how long a piece of the group may last, for several reasons, if so long is left in all."""
    sums = sums_due(web, due)
    taken = [end for tie in group for end in ends_at(web[tie])]
    # Behind the piece no end may be due for longer than is left.
    return [due[tie] for tie in group] + [left - sums[end] for end in sums if end not in taken]


def due_behind(due, length, group):
    """What ties still are to be given behind a piece, without those that have all."""
    behind = {tie: due[tie] - length if tie in group else due[tie] for tie in due}
    return {tie: behind[tie] for tie in behind if behind[tie] > 0}


def ties_for_ends(web, ties, full):
    """As few of the ties as have all full ends, no two of them with a common end."""
    counted = []
    numbers = []
    for tie in ties:
        many = len([end for end in ends_at(web[tie]) if end in full])
        if many > 0:
            # An end more counts for more than all ties less.
            counted.append(web[tie][:2] + (many * (len(ties) + 1) - 1,))
            numbers.append(tie)
    # Some matching has all full ends, so one that has most of them has them all.
    pricing = Pricing(counted)
    pricing.match_all()
    return tuple([numbers[place] for place in pricing.matching()])


def priced_ties(web, prices):
    """For each end with a price, which stretches of the ties' own times run at it."""
    need(is_side_web(web), "web")
    need(are_prices(web, prices), "prices")
    price_at = {end: price for end, price in prices}
    return tuple([(end, price, stretches_at(web, price_at, end)) for end, price in prices if price > 0])


def stretches_at(web, price_at, end):
    """The triples (tie, from, to) of the ties' own times that run at the end."""
    stretches = []
    for tie in range(len(web)):
        left_end, right_end = ends_at(web[tie])
        weight = web[tie][2]
        turn = min(price_at[left_end], weight)
        # Only ends with a price are asked about, so the stretch is not empty.
        if end == left_end:
            stretches.append((tie, 0, turn))
        if end == right_end and turn < weight:
            stretches.append((tie, turn, weight))
    return tuple(stretches)
