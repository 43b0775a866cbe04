"""Plans of rounds as long as the load, and of cover as long as the worth."""

from alikeclash.chains import with_other_words
from alikeclash.finding import chain_of
from alikeclash.loads import need_weighted
from alikeclash.peeling import peeled_pieces


def rounds_plan(ground, rule, table, weights):
    """A plan of rounds as long as the load."""
    need_weighted(ground, rule, table, weights)
    return peeled_pieces(chain_of(ground, rule), table, weights)


def cover_plan(ground, rule, table, weights):
    """A plan of cover as long as the worth."""
    need_weighted(ground, rule, table, weights)
    return peeled_pieces(with_other_words(chain_of(ground, rule)), table, weights)
