"""Which ways of planning may be trusted with a rule."""

from alikeclash.finding import plain_walk
from alikeclash.helpers import need
from alikeclash.lots import least_masks, mask_of
from alikeclash.rulemaking import told_rule
from alikeclash.rules import is_rule, words_by_mask
from alikeclash.turning import lots_told

WAYS = ("heaviest", "rooms", "fit", "rounds")


def told_lots(ground, rule):
    """The set of the least yes lots, if they are at most two and tell the rule; else None."""
    need(is_rule(ground, rule), "rule")
    return lots_telling(ground, rule)


def may_trust(ground, rule, way):
    """Whether the rule may be trusted with the way."""
    need(is_rule(ground, rule), "rule")
    need(way in WAYS, "way")
    return way in trusted_ways(ground, rule)


def ways_of(ground, rule):
    """The ways that the rule may be trusted with."""
    need(is_rule(ground, rule), "rule")
    return tuple(trusted_ways(ground, rule))


def lots_telling(ground, rule):
    """What told_lots returns."""
    least = lots_told(least_masks([mask_of(lot) for lot in rule]))
    if len(least) > 2 or told_rule(ground, least) != rule:
        return None
    return least


def trusted_ways(ground, rule):
    """The list of the ways that the rule may be trusted with."""
    told = lots_telling(ground, rule)
    chain, stuck = plain_walk(ground, words_by_mask(ground, rule))
    trusted = {
        "heaviest": told is not None and len(told) < 2,
        "rooms": told is not None,
        "fit": stuck is None and not [step for step in chain if step[0] == "two"],
        "rounds": stuck is None,
    }
    return [way for way in WAYS if trusted[way]]
