"""Where a rule turns from one word to the other."""

from alikeclash.grounds import is_said
from alikeclash.helpers import need
from alikeclash.lots import holds_mask, least_masks, lot_of, mask_of
from alikeclash.rules import is_rule, words_by_mask


def turning_lots(ground, rule, lot):
    """The set of the least lots that hold the lot and to which the rule says another word."""
    need(is_rule(ground, rule), "rule")
    need(is_said(ground, lot), "lot")
    return lots_told(turning_masks(words_by_mask(ground, rule), mask_of(lot)))


def yes_lots(ground, rule):
    """The set of the least yes lots."""
    need(is_rule(ground, rule), "rule")
    return lots_told(least_masks([mask_of(lot) for lot in rule]))


def turning_masks(words, mask):
    """The masks of the turning lots at a lot, words being what a rule says by masks."""
    turned = [other for other in words if holds_mask(other, mask) and words[other] != words[mask]]
    return least_masks(turned)


def lots_told(masks):
    """The set of the lots of the masks."""
    return tuple(sorted([lot_of(mask) for mask in masks]))
