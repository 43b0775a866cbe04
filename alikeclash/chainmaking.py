"""Rules bound to alikeness in a lot, and the chains of held rules."""

from alikeclash.finding import chain_of
from alikeclash.grounds import said_lots
from alikeclash.helpers import need
from alikeclash.kinds import is_lot
from alikeclash.rulemoving import held_rule
from alikeclash.rules import is_rule
from alikeclash.tables import are_in


def and_alike(ground, rule, lot):
    """The rule that says yes to what holds the lot and to which the rule says yes."""
    need_rule_and_lot(ground, rule, lot)
    return tuple([yes for yes in rule if are_in(yes, lot)])


def or_unlike(ground, rule, lot):
    """The rule that says yes to what does not hold the lot or to which the rule says yes."""
    need_rule_and_lot(ground, rule, lot)
    return tuple([other for other in said_lots(ground) if other in rule or not are_in(other, lot)])


def chain_held(ground, rule, lot):
    """The plain chain of the held rule; Refused tells a triple of it if there is none."""
    held, rule_there = held_rule(ground, rule, lot)
    return chain_of(held, rule_there)


def need_rule_and_lot(ground, rule, lot):
    """Refuse what is no rule or no lot of the ground."""
    need(is_rule(ground, rule), "rule")
    need(is_lot(ground[0], lot), "lot")
