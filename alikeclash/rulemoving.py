"""Rules moved to other grounds."""

from alikeclash.grounds import closing_of, is_closed, is_ground, said_lots
from alikeclash.groundmaking import doubled_ground, held_ground, renamed_lot
from alikeclash.helpers import need
from alikeclash.kinds import is_lot, is_number, is_sequence
from alikeclash.rules import is_rule


def held_rule(ground, rule, lot):
    """The held ground, and the rule there that says what the rule says."""
    need(is_rule(ground, rule), "rule")
    need(is_lot(ground[0], lot), "lot")
    closing = closing_of(ground, lot)
    held = [yes for yes in rule if all([column in yes for column in closing])]
    return held_ground(ground, lot), tuple(held)


def rule_under(ground, rule, other):
    """The rule of other, a ground with more dependences, that says what the rule says."""
    need(is_rule(ground, rule), "rule")
    need(has_dependences(ground, other), "other")
    return tuple([lot for lot in rule if is_closed(other, lot)])


def renamed_rule(ground, rule, sequence):
    """The rule of the renamed ground whose yes lots are those of the rule, renamed."""
    need(is_rule(ground, rule), "rule")
    need(is_sequence(ground[0], sequence), "sequence")
    return tuple(sorted([renamed_lot(sequence, lot) for lot in rule]))


def doubled_rule(ground, rule, column):
    """The rule of the doubled ground that says what the rule says without the new column."""
    need(is_rule(ground, rule), "rule")
    need(is_number(column) and column < ground[0], "column")
    added = ground[0]
    doubled = said_lots(doubled_ground(ground, column))
    return tuple([lot for lot in doubled if tuple([part for part in lot if part != added]) in rule])


def has_dependences(ground, other):
    """Whether other is a ground of the same size that has each dependence of the ground."""
    if not is_ground(other) or other[0] != ground[0]:
        return False
    return all([dependence in other[1] for dependence in ground[1]])
