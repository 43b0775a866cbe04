"""Rules, which are sets of closed lots to which they say yes."""

from alikeclash.grounds import is_said, said_lots
from alikeclash.helpers import ascends, need
from alikeclash.lots import mask_of


def is_rule(ground, thing):
    """Whether thing is a rule of the ground."""
    if not isinstance(thing, tuple) or not all([is_said(ground, lot) for lot in thing]):
        return False
    return ascends(thing)


def says(ground, rule, lot):
    """The word that the rule says to the lot, which is closed and not the whole one."""
    need(is_rule(ground, rule), "rule")
    need(is_said(ground, lot), "lot")
    return lot in rule


def opposite(ground, rule):
    """The rule that says yes where the rule says no."""
    need(is_rule(ground, rule), "rule")
    return tuple([lot for lot in said_lots(ground) if lot not in rule])


def both_say(ground, rule, other_rule):
    """The rule that says yes just where both rules do."""
    need_two_rules(ground, rule, other_rule)
    return tuple([lot for lot in rule if lot in other_rule])


def either_says(ground, rule, other_rule):
    """The rule that says yes just where at least one of them does."""
    need_two_rules(ground, rule, other_rule)
    return tuple(sorted(set(rule) | set(other_rule)))


def unlike_say(ground, rule, other_rule):
    """The rule that says yes just where exactly one of them does."""
    need_two_rules(ground, rule, other_rule)
    return tuple(sorted(set(rule) ^ set(other_rule)))


def need_two_rules(ground, rule, other_rule):
    """Refuse what is not a rule of the ground."""
    need(is_rule(ground, rule), "rule")
    need(is_rule(ground, other_rule), "other_rule")


def words_by_mask(ground, rule):
    """The words that the rule says to the closed lots but the whole one, by their masks."""
    yes = {lot: True for lot in rule}
    return {mask_of(lot): lot in yes for lot in said_lots(ground)}
