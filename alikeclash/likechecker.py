"""The checker of likeness lists."""

from alikeclash.errors import InvalidPaper
from alikeclash.grounds import is_said
from alikeclash.helpers import is_tuple_of, need
from alikeclash.kinds import is_number
from alikeclash.lots import mask_of


def lets_likeness(ground, many, thing):
    """Accept what likenesses returns for the tables with many rows, and return many."""
    need(is_number(many), "many")
    if not isinstance(thing, tuple) or not all([is_tuple_of(3, triple) for triple in thing]):
        raise InvalidPaper("shape", -1)
    # The length is compared first because many may be far too large to count up to.
    if len(thing) != many * (many - 1) // 2:
        raise InvalidPaper("length", -1)
    pairs = [(i, j) for i in range(many) for j in range(i + 1, many)]
    for k, (i, j, lot) in enumerate(thing):
        if not is_number(i) or not is_number(j) or (i, j) != pairs[k]:
            raise InvalidPaper("pair", k)
        if not is_said(ground, lot):
            raise InvalidPaper("closed", k)
    let_meets(many, {(i, j): mask_of(lot) for i, j, lot in thing})
    return many


def is_likeness_list(ground, many, thing):
    """Whether lets_likeness accepts thing."""
    try:
        lets_likeness(ground, many, thing)
    except InvalidPaper:
        return False
    return True


def let_meets(many, masks):
    """Accept masks of lots, told by pairs of rows, whose meets are equal for each three rows."""
    for i in range(many):
        for j in range(i + 1, many):
            for k in range(j + 1, many):
                if not meets_equal(masks[(i, j)], masks[(i, k)], masks[(j, k)]):
                    raise InvalidPaper("meet", (i, j, k))


def meets_equal(one, another, third):
    """Whether the meets of each two of the three are equal."""
    return one & another == one & third and one & another == another & third
