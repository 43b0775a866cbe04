"""Rules that at most two lots tell: their rows as ties of a two-sided web, and the formula for rooms."""

from alikeclash.clashes import need_rule_and_table
from alikeclash.helpers import need
from alikeclash.kinds import is_integer
from alikeclash.loads import need_weighted
from alikeclash.nesting import alike_parts
from alikeclash.sidewebs import sums_by_end
from alikeclash.trusting import lots_telling


def web_of_rows(ground, rule, table):
    """The pair (left, right) for each row; two rows clash just if they have one left or one right."""
    need_rule_and_table(ground, rule, table)
    return pairs_of_rows(ground, rule, table)


def room_formula(ground, rule, table, weights, rooms):
    """The greater of the load and of the weight of all rows over rooms, rounded up."""
    need_weighted(ground, rule, table, weights)
    need(is_rooms(rooms), "rooms")
    return formula_for(pairs_of_rows(ground, rule, table), weights, rooms)


def is_rooms(thing):
    """Whether any value is an integer of at least 1."""
    return is_integer(thing) and thing >= 1


def pairs_of_rows(ground, rule, table):
    """What web_of_rows returns; a rule that is not told by at most two lots is refused."""
    told = lots_telling(ground, rule)
    need(told is not None, "rule")
    sides = [least_alike(table, lot) for lot in told]
    while len(sides) < 2:
        sides.append({row: row for row in range(len(table))})
    return tuple([(sides[0][row], sides[1][row]) for row in range(len(table))])


def least_alike(table, lot):
    """For each row the least one that is alike with it in the lot."""
    parts = alike_parts(table, lot, tuple(range(len(table))))
    return {row: part[0] for part in parts for row in part}


def formula_for(pairs, weights, rooms):
    """The formula for rows that are such pairs."""
    return max(load_at_ends(pairs, weights), -(-sum(weights) // rooms))


def load_at_ends(pairs, weights):
    """The load, for rows that are such pairs: each quarrel has one left or one right."""
    sums = sums_by_end([pairs[row] + (weights[row],) for row in range(len(pairs))])
    return max(list(sums.values()), default=0)
