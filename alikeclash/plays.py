"""Playing first fit and heaviest first."""

from alikeclash.clashes import clash_masks, need_rule_and_table
from alikeclash.finding import chain_of
from alikeclash.helpers import need
from alikeclash.kinds import is_sequence
from alikeclash.loads import need_weighted
from alikeclash.lots import lot_of
from alikeclash.peeling import peeled_pieces
from alikeclash.playing import fitted_rounds, kept_rows
from alikeclash.tryings import ones_for


def first_fit(ground, rule, table, sequence):
    """The rounds that first fit makes, the first one first."""
    need_rule_and_table(ground, rule, table)
    need(is_sequence(len(table), sequence), "sequence")
    return tuple([lot_of(rows) for rows in fitted_rounds(clash_masks(rule, table), sequence)])


def fit_rounds(ground, rule, table, sequence):
    """How many rounds first fit makes."""
    return len(first_fit(ground, rule, table, sequence))


def heaviest_kept(ground, rule, table, weights):
    """The group that heaviest first keeps."""
    need_weighted(ground, rule, table, weights)
    return lot_of(kept_rows(clash_masks(rule, table), weights))


def best_sequence(ground, rule, table):
    """A sequence by which first fit makes as many rounds as the load is with weights 1."""
    need_rule_and_table(ground, rule, table)
    # With weights 1 a plan of rounds has each row once. First fit puts no row behind its round there.
    pieces = peeled_pieces(chain_of(ground, rule), table, ones_for(table))
    return tuple([row for _, group in pieces for row in group])
