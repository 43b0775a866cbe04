"""Tables on which equal shares have no hours as short as the quarrels allow."""

from alikeclash.clashes import need_rule_and_table
from alikeclash.helpers import need
from alikeclash.ringtables import ring_table
from alikeclash.rules import is_rule
from alikeclash.triples import triple_of
from alikeclash.tryings import ones_for, tried_load, tried_worth


def share_break(ground, rule):
    """A table and a share that is too much for its peaces but not for its quarrels, or None."""
    need(is_rule(ground, rule), "rule")
    triple = triple_of(ground, rule)
    if triple is None:
        return None
    table = ring_table(ground, rule, triple)
    return table, (1, tried_load(ground, rule, table, ones_for(table)))


def too_many(ground, rule, table):
    """How many rows there are, the worth and the load, both with all weights 1."""
    need_rule_and_table(ground, rule, table)
    ones = ones_for(table)
    return len(table), tried_worth(ground, rule, table, ones), tried_load(ground, rule, table, ones)
