"""Which rows of a table clash."""

from alikeclash.helpers import need
from alikeclash.kinds import is_group
from alikeclash.rules import is_rule
from alikeclash.tables import is_row_number, is_table, likeness_triples


def clash_pairs(ground, rule, table):
    """The set of the pairs (i, j) of rows, i below j, that clash."""
    need_rule_and_table(ground, rule, table)
    return tuple(pairs_that_clash(rule, table))


def is_quarrel(ground, rule, table, group):
    """Whether each two rows of the group clash."""
    need_rule_and_table(ground, rule, table)
    need(is_group(len(table), group), "group")
    return all_pairs_are(rule, table, group, True)


def is_peace(ground, rule, table, group):
    """Whether no two rows of the group clash."""
    need_rule_and_table(ground, rule, table)
    need(is_group(len(table), group), "group")
    return all_pairs_are(rule, table, group, False)


def clashing_with(ground, rule, table, row):
    """The group of the rows that clash with the row."""
    need_rule_and_table(ground, rule, table)
    need(is_row_number(table, row), "row")
    pairs = pairs_that_clash(rule, table)
    return tuple([other for other in range(len(table)) if (other, row) in pairs or (row, other) in pairs])


def need_rule_and_table(ground, rule, table):
    """Refuse what is no rule or no table of the ground."""
    need(is_rule(ground, rule), "rule")
    need(is_table(ground, table), "table")


def pairs_that_clash(rule, table):
    """The list of the pairs (i, j) of rows, i below j, that clash, ascending."""
    yes = {lot: True for lot in rule}
    return [(i, j) for i, j, lot in likeness_triples(table) if lot in yes]


def all_pairs_are(rule, table, group, word):
    """Whether each two rows of the group clash, or for the word False whether no two do."""
    many = len(pairs_that_clash(rule, [table[row] for row in group]))
    return many == (len(group) * (len(group) - 1) // 2 if word else 0)


def clash_masks(rule, table):
    """For each row the mask of the rows that clash with it."""
    masks = [0] * len(table)
    for i, j in pairs_that_clash(rule, table):
        masks[i] |= 1 << j
        masks[j] |= 1 << i
    return masks
