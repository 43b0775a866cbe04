"""Grounds, closings and closed lots."""

from alikeclash.helpers import ascends, is_tuple_of, need
from alikeclash.kinds import is_dependence, is_lot, is_number
from alikeclash.lots import holds_mask, lot_of, lots_of, mask_of


def is_ground(thing):
    """Whether thing is a pair (size, dependences)."""
    if not is_tuple_of(2, thing) or not is_number(thing[0]):
        return False
    return are_dependences(thing[0], thing[1])


def closing_of(ground, lot):
    """The least closed lot that the lot is within."""
    need(is_lot(ground[0], lot), "lot")
    return lot_of(closed_mask(mask_pairs(ground), mask_of(lot)))


def is_closed(ground, lot):
    """Whether the lot is closed."""
    need(is_lot(ground[0], lot), "lot")
    return keeps_pairs(mask_pairs(ground), mask_of(lot))


def base_of(ground):
    """The closing of ()."""
    return lot_of(base_mask(ground))


def closed_lots(ground):
    """The set of all closed lots, the whole one among them."""
    pairs = mask_pairs(ground)
    return tuple([lot for lot in lots_of(ground[0]) if keeps_pairs(pairs, mask_of(lot))])


def follows(ground, here, there):
    """Whether there is within the closing of here."""
    need(is_lot(ground[0], here), "here")
    need(is_lot(ground[0], there), "there")
    return holds_mask(closed_mask(mask_pairs(ground), mask_of(here)), mask_of(there))


def same_ground(ground, other):
    """Whether both grounds have the same size and the same closed lots."""
    need(is_ground(other), "other")
    return ground[0] == other[0] and covers(ground, other) and covers(other, ground)


def are_dependences(size, thing):
    """Whether thing is a set of dependences of the size."""
    if not isinstance(thing, tuple) or not all([is_dependence(size, part) for part in thing]):
        return False
    return ascends(thing)


def covers(ground, other):
    """Whether each dependence of other holds on the ground, of the same size, too."""
    pairs = mask_pairs(ground)
    return all([holds_mask(closed_mask(pairs, here), there) for here, there in mask_pairs(other)])


def mask_pairs(ground):
    """The dependences as pairs of masks."""
    return [(mask_of(here), mask_of(there)) for here, there in ground[1]]


def keeps_pairs(pairs, mask):
    """Whether the lot of mask is closed, pairs being the mask_pairs of the ground."""
    return all([holds_mask(mask, there) for here, there in pairs if holds_mask(mask, here)])


def closed_mask(pairs, mask):
    """The mask of the closing, pairs being the mask_pairs of the ground."""
    closed = mask
    while not keeps_pairs(pairs, closed):
        for here, there in pairs:
            if holds_mask(closed, here):
                closed |= there
    return closed


def base_mask(ground):
    """The mask of the base."""
    return closed_mask(mask_pairs(ground), 0)


def whole_mask(ground):
    """The mask of the whole lot."""
    return (1 << ground[0]) - 1


def said_lots(ground):
    """The set of the closed lots but the whole one: those to which rules say a word."""
    return tuple([lot for lot in closed_lots(ground) if len(lot) < ground[0]])


def is_said(ground, thing):
    """Whether any value is a closed lot but the whole one."""
    return is_lot(ground[0], thing) and len(thing) < ground[0] and is_closed(ground, thing)
