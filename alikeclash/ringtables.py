"""Tables that are rings."""

from alikeclash.ringlikes import ring_likes, ring_rows
from alikeclash.tablemaking import table_of


def ring_table(ground, rule, triple):
    """A table that is a ring, made from the triple of the rule."""
    likes = ring_likes(ground, rule, triple)
    return table_of(ground, ring_rows(likes), likes)
