"""What chains say."""

from alikeclash.chainchecker import is_chain, lets_chain, state_masks
from alikeclash.errors import InvalidPaper
from alikeclash.grounds import is_said, said_lots
from alikeclash.helpers import need
from alikeclash.lots import lot_of
from alikeclash.rules import is_rule
from alikeclash.tables import are_in


def states_of(ground, chain):
    """The states ahead of each step of the chain, and the one behind all."""
    need(is_chain(ground, chain), "chain")
    return tuple([lot_of(mask) for mask in state_masks(ground, chain)])


def chain_says(ground, chain, lot):
    """The word that the chain says to the lot."""
    need(is_chain(ground, chain), "chain")
    need(is_said(ground, lot), "lot")
    return word_of_chain(chain, lot)


def chain_rule(ground, chain):
    """The rule that says what the chain says."""
    need(is_chain(ground, chain), "chain")
    return tuple([lot for lot in said_lots(ground) if word_of_chain(chain, lot)])


def decides_at(ground, chain, lot):
    """The number of the step that decides for the lot."""
    need(is_chain(ground, chain), "chain")
    need(is_said(ground, lot), "lot")
    return deciding_step(chain, lot)


def lets_chain_of(ground, rule, thing):
    """Accept the chains of the rule, and return how many steps "two" the chain has."""
    need(is_rule(ground, rule), "rule")
    many = lets_chain(ground, thing)
    for lot in said_lots(ground):
        if word_of_chain(thing, lot) != (lot in rule):
            raise InvalidPaper("said", lot)
    return many


def exchanged(ground, chain):
    """The chain with the other word in each step."""
    need(is_chain(ground, chain), "chain")
    return with_other_words(chain)


def with_other_words(chain):
    """The steps of the chain, each with the other word."""
    return tuple([step[:-1] + (not step[-1],) for step in chain])


def deciding_step(chain, lot):
    """The number of the first step of the chain that decides for the lot."""
    k = 0
    # A lot that no step decides would hold the last state, which is the whole lot.
    while chain[k][0] != "end" and lots_within(chain[k], lot) == len(chain[k]) - 2:
        k += 1
    return k


def word_of_chain(chain, lot):
    """The word that the chain says to the lot."""
    step = chain[deciding_step(chain, lot)]
    if step[0] == "two" and lots_within(step, lot) == 1:
        return not step[-1]
    return step[-1]


def lots_within(step, lot):
    """How many lots of the step are within the lot."""
    return len([inner for inner in step[1:-1] if are_in(lot, inner)])
