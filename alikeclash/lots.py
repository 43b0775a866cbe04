"""Lots of a size, as ascending tuples of columns; inside also as masks.

A mask is an integer whose bit number c tells whether the lot has column c.
"""

from alikeclash.helpers import need
from alikeclash.kinds import is_lot


def whole_of(size):
    """The lot of all columns."""
    return tuple(range(size))


def lots_of(size):
    """The set of all lots of the size."""
    return tuple(sorted([lot_of(mask) for mask in range(1 << size)]))


def meet_of(size, one, another):
    """The lot of the columns that are in both."""
    need_two_lots(size, one, another)
    return tuple([column for column in one if column in another])


def union_of(size, one, another):
    """The lot of the columns that are in one of both at least."""
    need_two_lots(size, one, another)
    return tuple(sorted(set(one) | set(another)))


def without(size, one, another):
    """The lot of the columns that are in one, but not in another."""
    need_two_lots(size, one, another)
    return tuple([column for column in one if column not in another])


def is_within(size, one, another):
    """Whether each column of one is in another."""
    need_two_lots(size, one, another)
    return all([column in another for column in one])


def need_two_lots(size, one, another):
    """Refuse what is not a lot of the size."""
    need(is_lot(size, one), "one")
    need(is_lot(size, another), "another")


def mask_of(lot):
    """The mask of a lot."""
    mask = 0
    for column in lot:
        mask |= 1 << column
    return mask


def lot_of(mask):
    """The lot of a mask."""
    return tuple([column for column in range(mask.bit_length()) if mask >> column & 1])


def holds_mask(mask, inner):
    """Whether the lot of mask holds the one of inner."""
    return mask & inner == inner


def least_masks(masks):
    """The masks, ascending, of the lots that hold no other one of them."""
    least = []
    # A lot within another one has the smaller mask, so it comes first.
    for mask in sorted(masks):
        if not any([holds_mask(mask, inner) for inner in least]):
            least.append(mask)
    return least
