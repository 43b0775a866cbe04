"""Loads, rounds and the like of small tables, found by going through the groups.

Inside, groups are masks of rows, and the web has for each row the mask of the rows that
stand with it: those that clash with it for quarrels, the other ones for peaces.
"""

from alikeclash.clashes import clash_masks, need_rule_and_table
from alikeclash.helpers import need
from alikeclash.kinds import is_integer, is_weights
from alikeclash.lots import lot_of


def tried_load(ground, rule, table, weights):
    """The load."""
    need_rule_and_table(ground, rule, table)
    need(is_weights(len(table), weights), "weights")
    return heaviest_in(clash_masks(rule, table), weights, all_rows(table))


def tried_worth(ground, rule, table, weights):
    """The worth."""
    need_rule_and_table(ground, rule, table)
    need(is_weights(len(table), weights), "weights")
    return heaviest_in(peace_masks(rule, table), weights, all_rows(table))


def tried_rounds(ground, rule, table):
    """The rounds with all weights 1."""
    need_rule_and_table(ground, rule, table)
    return fewest_groups(peace_masks(rule, table), len(table))


def tried_cover(ground, rule, table):
    """The cover with all weights 1."""
    need_rule_and_table(ground, rule, table)
    return fewest_groups(clash_masks(rule, table), len(table))


def tried_room_rounds(ground, rule, table, rooms):
    """The least length of a plan for these rooms with all weights 1."""
    need_rule_and_table(ground, rule, table)
    need(is_integer(rooms) and rooms >= 1, "rooms")
    return fewest_groups(peace_masks(rule, table), rooms)


def all_rows(table):
    """The mask of all rows."""
    return (1 << len(table)) - 1


def ones_for(table):
    """Weights 1 for all rows."""
    return (1,) * len(table)


def peace_masks(rule, table):
    """For each row the mask of the other rows that do not clash with it."""
    clashing = clash_masks(rule, table)
    return [all_rows(table) & ~clashing[row] & ~(1 << row) for row in range(len(table))]


def heaviest_in(web, weights, rows):
    """The greatest weight of a group of some of the rows each two of which stand together."""
    if rows == 0:
        return 0
    row = rows.bit_length() - 1
    rest = rows & ~(1 << row)
    with_row = weights[row] + heaviest_in(web, weights, rest & web[row])
    return max(with_row, heaviest_in(web, weights, rest))


def fewest_groups(web, most):
    """The least number of groups, of at most so many rows that stand together, for all rows."""
    many = 0
    while not fits_groups(web, most, [], many):
        many += 1
    return many


def fits_groups(web, most, groups, many):
    """Whether all rows fit into many groups if the first rows are in the groups as they are."""
    row = sum([len(lot_of(group)) for group in groups])
    if row == len(web):
        return True
    for k in range(len(groups)):
        if groups[k] & ~web[row] == 0 and len(lot_of(groups[k])) < most:
            if fits_groups(web, most, groups[:k] + [groups[k] | 1 << row] + groups[k + 1:], many):
                return True
    return len(groups) < many and fits_groups(web, most, groups + [1 << row], many)
