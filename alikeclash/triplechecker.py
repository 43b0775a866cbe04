"""The checker of triples, which show that a rule has no chain."""

from alikeclash.errors import InvalidPaper
from alikeclash.grounds import closed_mask, is_said, mask_pairs
from alikeclash.helpers import is_tuple_of, need
from alikeclash.lots import holds_mask, mask_of
from alikeclash.rules import is_rule, words_by_mask


def lets_triple(ground, rule, thing):
    """Accept the triples of the rule, and return what the rule says to the first lot."""
    need(is_rule(ground, rule), "rule")
    if not is_tuple_of(4, thing) or thing[0] not in ("three", "two"):
        raise InvalidPaper("shape", -1)
    for k in range(1, 4):
        if not is_said(ground, thing[k]):
            raise InvalidPaper("lot", k)
    if not stands_right(thing):
        raise InvalidPaper("within", -1)
    words = words_by_mask(ground, rule)
    word = words[mask_of(thing[1])]
    for k, (mask, alike) in enumerate(wanted_words(ground, thing)):
        if (words[mask] == word) != alike:
            raise InvalidPaper("said", k)
    return word


def is_triple(ground, rule, thing):
    """Whether thing is a triple of the rule."""
    try:
        lets_triple(ground, rule, thing)
    except InvalidPaper:
        return False
    return True


def stands_right(triple):
    """Whether the lots of the triple ascend, or are within one another as they must be."""
    form, first, second, third = triple
    if form == "three":
        return first < second < third
    a, b, c = triple_masks(triple)
    return holds_mask(c, a) and a != c and not holds_mask(c, b)


def triple_masks(triple):
    """The masks of the three lots."""
    return [mask_of(lot) for lot in triple[1:]]


def triple_closing(ground, triple):
    """The mask of the closing of the first lot and of the meet of the other two."""
    a, b, c = triple_masks(triple)
    return closed_mask(mask_pairs(ground), a | (b & c))


def wanted_words(ground, triple):
    """The masks of the lots to which a word must be said, and whether it is that of the first."""
    a, b, c = triple_masks(triple)
    if triple[0] == "three":
        meets = [a & b, a & c, b & c, a & b & c]
        return [(mask, True) for mask in (a, b, c)] + [(mask, False) for mask in meets]
    wanted = [(a, True), (b, True), (c, False), (a & b, False), (b & c, False)]
    closing = triple_closing(ground, triple)
    if closing != c:
        wanted.append((closing, True))
    return wanted
