"""What a rule may be trusted with, as an object."""

from alikeclash.breaks import break_of
from alikeclash.grounds import is_ground
from alikeclash.helpers import need
from alikeclash.rules import is_rule
from alikeclash.trusting import WAYS, ways_of


class Ladder:
    """The ways that a rule may be trusted with, and breaks for the others."""

    def __init__(self, ground, rule):
        need(is_ground(ground), "ground")
        need(is_rule(ground, rule), "rule")
        self._ground = ground
        self._rule = rule

    def trusted(self):
        """The ways that the rule may be trusted with."""
        return ways_of(self._ground, self._rule)

    def break_for(self, way):
        """A break of this way; Trusted if the rule may be trusted with it."""
        return break_of(self._ground, self._rule, way)

    def says(self):
        """For each way the word whether the rule may be trusted with it."""
        trusted = self.trusted()
        return tuple([way in trusted for way in WAYS])
