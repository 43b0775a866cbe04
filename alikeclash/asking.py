"""Answers about rows that are unlike in at most three columns, and the rule that they tell."""

from alikeclash.blocks import rule_told_by
from alikeclash.errors import Unfit
from alikeclash.helpers import ascends, need
from alikeclash.kinds import is_lot
from alikeclash.lots import lots_of, mask_of, whole_of
from alikeclash.rules import is_rule

# Answers fit a rule with a chain if those within each so many columns do.
ENOUGH = 5


def asked_lots(size):
    """The set of the lots of one, two or three columns."""
    return tuple([lot for lot in lots_of(size) if 1 <= len(lot) <= 3])


def answers_of(size, rule):
    """The set of the asked lots that the rule answers with yes."""
    need(is_rule((size, ()), rule), "rule")
    return tuple([lot for lot in asked_lots(size) if other_columns(size, lot) in rule])


def fits_chain(size, answers):
    """Whether some rule with a chain has just these answers."""
    need(are_answers(size, answers), "answers")
    return rule_told_by(size, words_within(whole_of(size), answers)) is not None


def told_back(size, answers):
    """The rule with a chain that has just these answers; Unfit tells a lot if there is none."""
    need(are_answers(size, answers), "answers")
    rule = rule_told_by(size, words_within(whole_of(size), answers))
    if rule is None:
        raise Unfit(unfit_lot(size, answers))
    return rule


def many_asked(size):
    """How many lots an Asker asks about at most."""
    pairs = [blocks * (size - 2 * blocks) + blocks * (blocks - 1) // 2 for blocks in range(size // 2 + 1)]
    return size * (size + 1) // 2 + max(pairs)


def is_asked(size, thing):
    """Whether any value is an asked lot of the size."""
    return is_lot(size, thing) and 1 <= len(thing) <= 3


def are_answers(size, thing):
    """Whether any value is a set of asked lots of the size."""
    return isinstance(thing, tuple) and all([is_asked(size, lot) for lot in thing]) and ascends(thing)


def other_columns(size, lot):
    """The lot of all columns that are not in the lot."""
    return tuple([column for column in range(size) if column not in lot])


def words_within(columns, answers):
    """The words, by masks, of the asked lots within the columns, which are numbered from 0 on."""
    yes = {lot: True for lot in answers}
    words = {}
    for lot in asked_lots(len(columns)):
        words[mask_of(lot)] = tuple([columns[place] for place in lot]) in yes
    return words


def unfit_lot(size, answers):
    """A lot of at most five columns within which no rule with a chain has the answers."""
    many = min(size, ENOUGH)
    lots = [lot for lot in lots_of(size) if len(lot) == many]
    unfit = [lot for lot in lots if rule_told_by(many, words_within(lot, answers)) is None]
    return unfit[0]
