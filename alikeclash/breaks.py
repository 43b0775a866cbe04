"""Breaks, which show that a rule may not be trusted with a way."""

from alikeclash.errors import Trusted
from alikeclash.ringtables import ring_table
from alikeclash.smalltables import bend_table, claw_table, path_table
from alikeclash.triples import triple_of
from alikeclash.trusting import may_trust


def break_of(ground, rule, way):
    """A break of this way; Trusted if the rule may be trusted with it."""
    if may_trust(ground, rule, way):
        raise Trusted(way)
    if way == "heaviest":
        # The row in the middle is taken first, though both others together weigh more.
        return way, bend_table(ground, rule), (2, 3, 2)
    if way == "fit":
        # The ends of the path share a round, so its inner rows need two more.
        return way, path_table(ground, rule), (0, 3, 1, 2)
    if way == "rooms":
        # Row 3 takes a round by itself, and the three others do not fit into one round.
        return way, claw_table(ground, rule), 2
    return way, ring_table(ground, rule, triple_of(ground, rule))
