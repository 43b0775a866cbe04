"""Plans for tables of one ground, as an object."""

from alikeclash.grounds import is_ground
from alikeclash.helpers import need
from alikeclash.plays import first_fit
from alikeclash.roomplans import room_plan
from alikeclash.roundplans import cover_plan, rounds_plan
from alikeclash.rules import is_rule


class Planner:
    """A ground and a rule of it, by which tables are planned."""

    def __init__(self, ground, rule):
        need(is_ground(ground), "ground")
        need(is_rule(ground, rule), "rule")
        self._ground = ground
        self._rule = rule

    def rounds_for(self, table, weights):
        """A plan of rounds as long as the load."""
        return rounds_plan(self._ground, self._rule, table, weights)

    def cover_for(self, table, weights):
        """A plan of cover as long as the worth."""
        return cover_plan(self._ground, self._rule, table, weights)

    def rooms_for(self, table, weights, rooms):
        """A plan for these rooms that is as long as the formula."""
        return room_plan(self._ground, self._rule, table, weights, rooms)

    def fit(self, table, sequence):
        """The rounds that first fit makes."""
        return first_fit(self._ground, self._rule, table, sequence)
