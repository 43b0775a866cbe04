"""Pieces: groups of rows for lengths of time, gone through one behind the other."""

from alikeclash.helpers import ascends, is_tuple_of, need
from alikeclash.kinds import is_group, is_integer, is_number


def is_pieces(many, thing):
    """Whether thing is pieces of a table of many rows."""
    if not are_pieces(thing):
        return False
    return all([is_group(many, group) for _, group in thing])


def pieces_length(pieces_told):
    """The sum of all lengths."""
    need(are_pieces(pieces_told), "pieces_told")
    return sum([length for length, _ in pieces_told])


def given_to(pieces_told, row):
    """The sum of the lengths of the pieces with the row in their group."""
    need(are_pieces(pieces_told), "pieces_told")
    need(is_number(row), "row")
    return sum([length for length, group in pieces_told if row in group])


def side_by_side(one, other):
    """The pieces of both, run at once; no row is in both."""
    need(are_pieces(one), "one")
    need(are_pieces(other) and not share_rows(one, other), "other")
    joint = []
    begin = 0
    for end in sorted(set(ends_in(one)) | set(ends_in(other))):
        group = group_from(one, begin) + group_from(other, begin)
        joint.append((end - begin, tuple(sorted(group))))
        begin = end
    return tuple(joint)


def one_behind(one, other):
    """The pieces of one, then those of other."""
    need(are_pieces(one), "one")
    need(are_pieces(other), "other")
    return one + other


def cut_pieces(pieces_told, here, there):
    """What stands from moment here to moment there."""
    need(are_pieces(pieces_told), "pieces_told")
    need(is_number(here), "here")
    need(is_number(there) and there >= here, "there")
    cut = []
    begin = 0
    for length, group in pieces_told:
        left = min(begin + length, there) - max(begin, here)
        if left > 0:
            cut.append((left, group))
        begin += length
    return tuple(cut)


def are_pieces(thing):
    """Whether any value is pieces of some number of rows."""
    return isinstance(thing, tuple) and all([is_piece(part) for part in thing])


def is_piece(thing):
    """Whether any value is a pair of a length and a group that is not empty."""
    if not is_tuple_of(2, thing) or not is_integer(thing[0]) or thing[0] < 1:
        return False
    return is_filled_group(thing[1])


def is_filled_group(thing):
    """Whether any value is a set of numbers that is not empty."""
    return is_number_set(thing) and thing != ()


def is_number_set(thing):
    """Whether any value is a set of numbers."""
    return isinstance(thing, tuple) and all([is_number(row) for row in thing]) and ascends(thing)


def share_rows(one, other):
    """Whether some row is in groups of both."""
    rows = {row: True for _, group in one for row in group}
    return any([row in rows for _, group in other for row in group])


def ends_in(pieces_told):
    """The moments at which pieces end."""
    moments = []
    for length, _ in pieces_told:
        moments.append(length + (moments[-1] if moments else 0))
    return moments


def group_from(pieces_told, moment):
    """The group that stands from the moment on, () from the end on."""
    begin = 0
    for length, group in pieces_told:
        begin += length
        if moment < begin:
            return group
    return ()
