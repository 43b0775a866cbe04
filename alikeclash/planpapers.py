"""Papers of a plan and of a group that shows that no plan is shorter."""

from alikeclash.chains import with_other_words
from alikeclash.finding import chain_of
from alikeclash.helpers import need
from alikeclash.kinds import is_word
from alikeclash.loads import need_weighted
from alikeclash.nesting import heaviest_quarrel
from alikeclash.peeling import peeled_pieces


def plan_paper(ground, rule, table, weights, w):
    """A paper of a plan of rounds, or for the word False of a plan of cover."""
    need_weighted(ground, rule, table, weights)
    need(is_word(w), "w")
    chain = chain_of(ground, rule)
    if not w:
        chain = with_other_words(chain)
    group = heaviest_quarrel(chain, table, weights)
    return "rounds" if w else "cover", group, peeled_pieces(chain, table, weights)
