"""Rings of rows, made from triples."""

from alikeclash.helpers import need
from alikeclash.lots import lot_of
from alikeclash.rules import is_rule
from alikeclash.tablemaking import likes_told
from alikeclash.triplechecker import is_triple, triple_closing, triple_masks

# The likenesses of rows 0 and 1, 0 and 2 .. as told by lots a, b, c of the triple, their
# meets, and the closing d. They are chosen so that alikeness in each column, whatever lots
# have it, parts the rows into groups; this is what makes them likenesses of a table.
FIVE_BY_THREE = "a ab ab c b ab ab a ab b"
SEVEN_BY_THREE = "a ab ab abc bc c b ab abc abc ac a ac ac abc c ac abc a ab b"
FIVE_BY_TWO = "a c bc b a ab ab b bc d"
SEVEN_BY_TWO = "a c bc ab ab b a ab ab ab ab b ab ab bc a ab bc b ab a"


def ring_likes(ground, rule, triple):
    """The likenesses of the rows of a ring that is made from the triple of the rule."""
    need(is_rule(ground, rule), "rule")
    need(is_triple(ground, rule, triple), "triple")
    a, b, c = triple_masks(triple)
    d = triple_closing(ground, triple)
    told = {"a": a, "b": b, "c": c, "ab": a & b, "ac": a & c, "bc": b & c, "abc": a & b & c, "d": d}
    names = names_in_ring(triple[0], told)
    return likes_told(ring_rows(names), [lot_of(told[name]) for name in names])


def names_in_ring(form, told):
    """The names of the likenesses of the ring, told being the masks of the lots by names."""
    if form == "three":
        meets_are_one = told["ab"] == told["ac"] and told["ac"] == told["bc"]
        names = FIVE_BY_THREE if meets_are_one else SEVEN_BY_THREE
    else:
        names = FIVE_BY_TWO if told["d"] != told["c"] else SEVEN_BY_TWO
    return names.split(" ")


def ring_rows(likes):
    """How many rows a ring has that has so many likenesses."""
    return 5 if len(likes) == 10 else 7
