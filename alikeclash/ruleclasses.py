"""Rules as objects, each with its ground."""

from alikeclash.clashes import clash_pairs
from alikeclash.grounds import is_ground
from alikeclash.helpers import need
from alikeclash.rulemaking import are_lots, told_rule
from alikeclash.rulemoving import held_rule
from alikeclash.rules import is_rule, opposite, says


def made(ground, rule):
    """The Rule object of the ground and the rule."""
    need(is_rule(ground, rule), "rule")
    new = Rule(ground, ())
    new._rule = rule
    return new


class Rule:
    """A rule of a ground; equal to another one with an equal ground and an equal rule."""

    def __init__(self, ground, lots):
        need(is_ground(ground), "ground")
        need(are_lots(ground[0], lots), "lots")
        self._ground = ground
        self._rule = told_rule(ground, lots)

    def __eq__(self, other):
        return isinstance(other, Rule) and self._ground == other._ground and self._rule == other._rule

    def says(self, lot):
        """The word that the rule says to the lot."""
        return says(self._ground, self._rule, lot)

    def yes(self):
        """The rule itself, its yes lots."""
        return self._rule

    def opposite(self):
        """The Rule object of the opposite rule."""
        return made(self._ground, opposite(self._ground, self._rule))

    def held(self, lot):
        """The Rule object of the held ground and its rule."""
        ground, rule = held_rule(self._ground, self._rule, lot)
        return made(ground, rule)

    def clashes(self, table):
        """The set of the pairs of rows that clash."""
        return clash_pairs(self._ground, self._rule, table)
