"""Where two rules say different words."""

from alikeclash.rules import unlike_say
from alikeclash.tablemaking import table_of


def parting_lots(ground, rule, other_rule):
    """The set of the lots to which the rules say different words."""
    return unlike_say(ground, rule, other_rule)


def parting_table(ground, rule, other_rule):
    """A table of two rows that clash by exactly one of the rules, or None."""
    lots = unlike_say(ground, rule, other_rule)
    if lots == ():
        return None
    return table_of(ground, 2, ((0, 1, lots[0]),))
