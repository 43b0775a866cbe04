"""Plans for rooms, and plans of rounds with evenly many rows in each group."""

from alikeclash.evening import evenly_dealt
from alikeclash.formulas import formula_for, is_rooms, load_at_ends, pairs_of_rows
from alikeclash.helpers import need
from alikeclash.kinds import is_number
from alikeclash.loads import need_weighted


def room_plan(ground, rule, table, weights, rooms):
    """A plan for these rooms that is as long as the formula."""
    need_weighted(ground, rule, table, weights)
    need(is_rooms(rooms), "rooms")
    pairs = pairs_of_rows(ground, rule, table)
    return even_pieces(pairs, weights, formula_for(pairs, weights, rooms))


def even_plan(ground, rule, table, weights, many):
    """A plan of rounds of length many with evenly many rows in each group."""
    need_weighted(ground, rule, table, weights)
    need(is_number(many), "many")
    pairs = pairs_of_rows(ground, rule, table)
    need(many > 0 and load_at_ends(pairs, weights) <= many <= sum(weights), "many")
    return even_pieces(pairs, weights, many)


def even_pieces(pairs, weights, length):
    """A plan of so many rounds, from the load to the weight of all rows, for rows that are such pairs."""
    rows = [row for row in range(len(pairs)) if weights[row] > 0]
    # Without weights nothing is dealt, and the length is 0.
    if not rows:
        return ()
    dealt = evenly_dealt([pairs[row] + (weights[row],) for row in rows], length)
    return tuple([(piece, tuple([rows[tie] for tie in group])) for piece, group in dealt])
