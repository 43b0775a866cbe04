"""Triples of rules without a chain, found."""

from alikeclash.finding import plain_walk, step_about, triple_about
from alikeclash.grounds import is_said
from alikeclash.helpers import need
from alikeclash.lots import mask_of
from alikeclash.rules import is_rule, words_by_mask


def triple_of(ground, rule):
    """A triple of the rule, or None for a rule with a chain."""
    need(is_rule(ground, rule), "rule")
    words = words_by_mask(ground, rule)
    _, stuck = plain_walk(ground, words)
    if stuck is None:
        return None
    return triple_about(ground, words, stuck)


def triple_at(ground, rule, lot):
    """A triple of the rule whose lots hold the lot, at which there is no next step."""
    need(is_rule(ground, rule), "rule")
    need(is_said(ground, lot), "lot")
    words = words_by_mask(ground, rule)
    need(step_about(words, mask_of(lot)) is None, "lot")
    return triple_about(ground, words, mask_of(lot))
