"""One more of a row's weight in a plan of rounds, which keeps all rounds but at most two."""

from alikeclash.errors import Blocked
from alikeclash.formulas import pairs_of_rows
from alikeclash.helpers import need
from alikeclash.loads import need_weighted
from alikeclash.nesting import weight_of
from alikeclash.pieces import pieces_length
from alikeclash.planchecker import is_rounds_plan
from alikeclash.tables import is_row_number


def kept_plan(ground, rule, table, weights, pieces_told, row):
    """A plan of rounds, as long as the one told, that gives the row one more than its weight."""
    need_weighted(ground, rule, table, weights)
    need(is_rounds_plan(rule, table, weights, pieces_told), "pieces_told")
    need(is_row_number(table, row), "row")
    pairs = pairs_of_rows(ground, rule, table)
    for side in (0, 1):
        quarrel = tuple([other for other in range(len(pairs)) if pairs[other][side] == pairs[row][side]])
        if weight_of(weights, quarrel) == pieces_length(pieces_told):
            raise Blocked(quarrel)
    return with_rounds(pieces_told, changed_groups(pairs, [group for _, group in pieces_told], row))


def changed_groups(pairs, groups, row):
    """By their numbers the groups, one or two of them, that are others once one has the row."""
    without_left = [k for k in range(len(groups)) if row_at(pairs, groups[k], 0, pairs[row][0]) is None]
    without_right = [k for k in range(len(groups)) if row_at(pairs, groups[k], 1, pairs[row][1]) is None]
    for k in without_left:
        if k in without_right:
            return {k: with_row(groups[k], row)}
    first, second = without_left[0], without_right[0]
    moved = rows_between(pairs, groups[second], groups[first], pairs[row][0])
    return {
        first: tuple(sorted(set(groups[first]) ^ set(moved))),
        second: with_row(tuple(sorted(set(groups[second]) ^ set(moved))), row),
    }


def rows_between(pairs, one, other, left):
    """The rows, by turns of one and of the other group, that hang together from the left end on.

    The left end is at no row of the other group. The rows never come to a right end that is
    at none of the first group, as each of these is at its own right end.
    """
    moved = []
    group, behind, side, end = one, other, 0, left
    row = row_at(pairs, group, side, end)
    while row is not None:
        moved.append(row)
        group, behind, side = behind, group, 1 - side
        end = pairs[row][side]
        row = row_at(pairs, group, side, end)
    return moved


def row_at(pairs, group, side, end):
    """The row of a peace at the end of the side, or None."""
    found = [row for row in group if pairs[row][side] == end]
    return found[0] if found else None


def with_row(group, row):
    """The group with one more row."""
    return tuple(sorted(group + (row,)))


def with_rounds(pieces_told, changed):
    """The pieces, in which one round of each changed piece has the new group."""
    pieces = []
    for k, (length, group) in enumerate(pieces_told):
        kept = length - 1 if k in changed else length
        if kept > 0:
            pieces.append((kept, group))
        if k in changed:
            pieces.append((1, changed[k]))
    return tuple(pieces)
