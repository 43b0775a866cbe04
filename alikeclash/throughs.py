"""Heaviest quarrels and peaces with a row, by rules with a chain."""

from alikeclash.chains import with_other_words
from alikeclash.finding import chain_of
from alikeclash.helpers import need
from alikeclash.loads import need_weighted
from alikeclash.nesting import quarrel_with, weight_of
from alikeclash.tables import is_row_number


def load_through(ground, rule, table, weights, row):
    """The greatest weight of a quarrel that has the row."""
    return weight_of(weights, quarrel_through(ground, rule, table, weights, row))


def quarrel_through(ground, rule, table, weights, row):
    """A quarrel of this weight that has the row."""
    need_weighted_row(ground, rule, table, weights, row)
    return quarrel_with(chain_of(ground, rule), table, weights, row)


def worth_through(ground, rule, table, weights, row):
    """The greatest weight of a peace that has the row."""
    return weight_of(weights, peace_through(ground, rule, table, weights, row))


def peace_through(ground, rule, table, weights, row):
    """A peace of this weight that has the row."""
    need_weighted_row(ground, rule, table, weights, row)
    return quarrel_with(with_other_words(chain_of(ground, rule)), table, weights, row)


def need_weighted_row(ground, rule, table, weights, row):
    """Refuse what need_weighted refuses, and what is not the number of a row."""
    need_weighted(ground, rule, table, weights)
    need(is_row_number(table, row), "row")
