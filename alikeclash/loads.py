"""Loads and worths of tables, by rules with a chain."""

from alikeclash.chains import with_other_words
from alikeclash.clashes import need_rule_and_table
from alikeclash.finding import chain_of
from alikeclash.helpers import need
from alikeclash.kinds import is_group, is_weights
from alikeclash.nesting import heaviest_quarrel, weight_of


def sum_of(weights, group):
    """The weight of the group."""
    need(isinstance(weights, tuple) and is_weights(len(weights), weights), "weights")
    need(is_group(len(weights), group), "group")
    return weight_of(weights, group)


def load_of(ground, rule, table, weights):
    """The load."""
    return weight_of(weights, quarrel_of(ground, rule, table, weights))


def quarrel_of(ground, rule, table, weights):
    """A quarrel that weighs the load."""
    need_weighted(ground, rule, table, weights)
    return heaviest_quarrel(chain_of(ground, rule), table, weights)


def worth_of(ground, rule, table, weights):
    """The worth."""
    return weight_of(weights, peace_of(ground, rule, table, weights))


def peace_of(ground, rule, table, weights):
    """A peace that weighs the worth."""
    need_weighted(ground, rule, table, weights)
    return heaviest_quarrel(with_other_words(chain_of(ground, rule)), table, weights)


def need_weighted(ground, rule, table, weights):
    """Refuse what is no rule, no table of the ground, or no weights of the table."""
    need_rule_and_table(ground, rule, table)
    need(is_weights(len(table), weights), "weights")
