"""The checker of breaks."""

from alikeclash.clashes import clash_masks
from alikeclash.errors import InvalidPaper
from alikeclash.helpers import is_tuple_of, need
from alikeclash.kinds import is_integer, is_sequence, is_weights
from alikeclash.lots import lot_of
from alikeclash.playing import fitted_rounds, kept_rows
from alikeclash.rules import is_rule
from alikeclash.tables import is_table
from alikeclash.tryings import ones_for, tried_cover, tried_load, tried_room_rounds, tried_rounds, tried_worth

MOST_ROWS = 9


def lets_break(ground, rule, thing):
    """Accept the breaks of the rule, and return the way."""
    need(is_rule(ground, rule), "rule")
    if not has_break_shape(thing):
        raise InvalidPaper("shape", -1)
    if not is_table(ground, thing[1]) or len(thing[1]) > MOST_ROWS:
        raise InvalidPaper("table", 1)
    if thing[0] != "rounds" and not fits_way(thing[0], len(thing[1]), thing[2]):
        raise InvalidPaper("with", 2)
    if not goes_wrong(ground, rule, thing):
        raise InvalidPaper("right", -1)
    return thing[0]


def has_break_shape(thing):
    """Whether thing is a tuple of a way and of as many values as go with it."""
    if is_tuple_of(2, thing):
        return thing[0] == "rounds"
    return is_tuple_of(3, thing) and thing[0] in ("fit", "rooms", "heaviest")


def fits_way(way, many, thing):
    """Whether thing may stand behind a table of many rows in a break of the way."""
    if way == "fit":
        return is_sequence(many, thing)
    if way == "rooms":
        return is_integer(thing) and thing >= 1
    return is_weights(many, thing)


def goes_wrong(ground, rule, told):
    """Whether the way goes wrong on the table as told."""
    way, table = told[:2]
    if way == "heaviest":
        kept = lot_of(kept_rows(clash_masks(rule, table), told[2]))
        return sum([told[2][row] for row in kept]) < tried_worth(ground, rule, table, told[2])
    load = tried_load(ground, rule, table, ones_for(table))
    if way == "fit":
        return len(fitted_rounds(clash_masks(rule, table), told[2])) > load
    if way == "rooms":
        return formula_for(load, len(table), told[2]) < tried_room_rounds(ground, rule, table, told[2])
    if load < tried_rounds(ground, rule, table):
        return True
    return tried_worth(ground, rule, table, ones_for(table)) < tried_cover(ground, rule, table)


def formula_for(load, weight, rooms):
    """The greater of the load and of the weight of all rows over rooms, rounded up."""
    return max(load, -(-weight // rooms))
