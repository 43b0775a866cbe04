"""How the load changes with the weight of one row, by rules with a chain."""

from alikeclash.finding import chain_of
from alikeclash.loads import need_weighted
from alikeclash.nesting import heaviest_quarrel, quarrel_with, weight_of
from alikeclash.throughs import need_weighted_row


def raising_rows(ground, rule, table, weights):
    """The group of the rows for which 1 more weight makes the load greater."""
    need_weighted(ground, rule, table, weights)
    chain = chain_of(ground, rule)
    load = load_by(chain, table, weights)
    return tuple([row for row in range(len(table)) if load_with(chain, table, weights, row) == load])


def lowering_rows(ground, rule, table, weights):
    """The group of the rows of weight at least 1 for which 1 less weight makes the load less."""
    need_weighted(ground, rule, table, weights)
    chain = chain_of(ground, rule)
    quarrel = heaviest_quarrel(chain, table, weights)
    load = weight_of(weights, quarrel)
    # A row outside this quarrel leaves the load as it is.
    filled = [row for row in quarrel if weights[row] > 0]
    return tuple([row for row in filled if load_by(chain, table, lowered(weights, row)) < load])


def spare_of(ground, rule, table, weights, row):
    """The greatest number that can be added to the row's weight without making the load greater."""
    need_weighted_row(ground, rule, table, weights, row)
    chain = chain_of(ground, rule)
    return load_by(chain, table, weights) - load_with(chain, table, weights, row)


def load_by(chain, table, weights):
    """The load by the rule that the chain says."""
    return weight_of(weights, heaviest_quarrel(chain, table, weights))


def load_with(chain, table, weights, row):
    """The greatest weight of a quarrel that has the row, by the rule that the chain says."""
    return weight_of(weights, quarrel_with(chain, table, weights, row))


def lowered(weights, row):
    """The weights with 1 less for the row."""
    return weights[:row] + (weights[row] - 1,) + weights[row + 1:]
