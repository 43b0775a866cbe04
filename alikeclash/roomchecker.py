"""The checker of plans for rooms."""

from alikeclash.errors import InvalidPaper
from alikeclash.formulas import is_rooms
from alikeclash.helpers import need
from alikeclash.loads import need_weighted
from alikeclash.pieces import pieces_length
from alikeclash.planchecker import let_given, let_piece


def lets_rooms(ground, rule, table, weights, rooms, thing):
    """Accept plans for these rooms, and return their length."""
    need_weighted(ground, rule, table, weights)
    need(is_rooms(rooms), "rooms")
    if not isinstance(thing, tuple):
        raise InvalidPaper("shape", -1)
    for k, piece in enumerate(thing):
        let_piece(rule, table, k, piece, False)
        if len(piece[1]) > rooms:
            raise InvalidPaper("rooms", k)
    let_given(weights, thing)
    return pieces_length(thing)
