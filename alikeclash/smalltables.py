"""Tables of three and four rows that show which ways a rule may not be trusted with.

Inside, lots are masks, and words what the rule says by masks.
"""

from alikeclash.helpers import need
from alikeclash.lots import holds_mask, least_masks, lot_of
from alikeclash.rules import is_rule, words_by_mask
from alikeclash.tablemaking import likes_told, table_of


def bend_table(ground, rule):
    """A table of three rows of which just rows 0 and 1, 1 and 2 clash, or None."""
    need(is_rule(ground, rule), "rule")
    return table_like(ground, 3, bend_masks(words_by_mask(ground, rule)))


def path_table(ground, rule):
    """A table of four rows of which just rows 0 and 1, 1 and 2, 2 and 3 clash, or None."""
    need(is_rule(ground, rule), "rule")
    return table_like(ground, 4, path_masks(words_by_mask(ground, rule)))


def claw_table(ground, rule):
    """A table of four rows of which just row 3 and each other one clash, or None."""
    need(is_rule(ground, rule), "rule")
    return table_like(ground, 4, claw_masks(words_by_mask(ground, rule)))


def table_like(ground, many, masks):
    """The table of many rows with the likenesses, or None if these are None."""
    if masks is None:
        return None
    return table_of(ground, many, likes_told(many, [lot_of(mask) for mask in masks]))


def lost_yes(words):
    """A yes lot and one that holds it and is said no, or None."""
    yes = [mask for mask in words if words[mask]]
    for other in words:
        if not words[other]:
            within = [mask for mask in yes if holds_mask(other, mask)]
            if within:
                return within[0], other
    return None


def least_yes(words):
    """The masks of the least yes lots."""
    return least_masks([mask for mask in words if words[mask]])


def bend_masks(words):
    """The likenesses of three rows that are a bend, or None."""
    lost = lost_yes(words)
    if lost is not None:
        yes, no = lost
        return [yes, no, yes]
    least = least_yes(words)
    if len(least) < 2:
        return None
    # The meet is said no, as it is within a least yes lot.
    return [least[0], least[0] & least[1], least[1]]


def path_masks(words):
    """The likenesses of four rows that are a path, or None."""
    for one in words:
        for other in words:
            meet = one & other
            if words[one] == words[other] and words[meet] != words[one]:
                if words[one]:
                    return [one, meet, meet, other, meet, one]
                # The same rows as 2, 0, 3, 1: a path by the opposite rule, told as one by the rule.
                return [meet, one, other, meet, one, meet]
    return None


def claw_masks(words):
    """The likenesses of four rows that are a claw, or None."""
    lost = lost_yes(words)
    if lost is not None:
        yes, no = lost
        return [no, no, yes, no, yes, yes]
    least = least_yes(words)
    if len(least) < 3:
        return None
    a, b, c = least[:3]
    return [a & b, a & c, a, b & c, b, c]
