"""Plain chains."""

from alikeclash.chainchecker import is_chain
from alikeclash.chains import chain_rule
from alikeclash.finding import chain_of
from alikeclash.helpers import need


def is_plain(ground, chain):
    """Whether the chain is plain."""
    need(is_chain(ground, chain), "chain")
    ones = [k for k in range(len(chain)) if chain[k][0] == "one"]
    # Behind "one" the state is not whole, so there is a step behind it.
    return all([goes_on_plainly(chain[k], chain[k + 1]) for k in ones])


def plain_of(ground, chain):
    """The plain chain of the rule that the chain says."""
    need(is_chain(ground, chain), "chain")
    return chain_of(ground, chain_rule(ground, chain))


def goes_on_plainly(step, behind):
    """Whether the step behind a step "one" is as a plain chain has it."""
    return behind[-1] != step[-1] or behind[0] == "two"
