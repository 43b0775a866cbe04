"""Rules made from sentences and lots, and sentences made from rules."""

from alikeclash.grounds import said_lots
from alikeclash.helpers import need
from alikeclash.kinds import is_lot
from alikeclash.lots import holds_mask, mask_of
from alikeclash.rules import is_rule
from alikeclash.sentences import is_sentence, lots_where

ALWAYS = ("always",)
NEVER = ("never",)


def sentence_rule(ground, sentence):
    """The rule that says yes where the sentence holds."""
    need(is_sentence(ground[0], sentence), "sentence")
    return lots_where(ground, sentence)


def told_rule(ground, lots):
    """The rule that says yes to what holds at least one of the lots."""
    need(are_lots(ground[0], lots), "lots")
    told = [mask_of(lot) for lot in lots]
    return tuple([lot for lot in said_lots(ground) if holds_one(mask_of(lot), told)])


def never_rule(ground):
    """The rule without yes lots."""
    return ()


def always_rule(ground):
    """The rule that says yes to each closed lot but the whole one."""
    return said_lots(ground)


def sentence_of(ground, rule):
    """A sentence whose rule on this ground is the rule."""
    need(is_rule(ground, rule), "rule")
    return parting_sentence(rule, [lot for lot in said_lots(ground) if lot not in rule], 0)


def are_lots(size, thing):
    """Whether thing is a tuple of lots of the size."""
    return isinstance(thing, tuple) and all([is_lot(size, lot) for lot in thing])


def holds_one(mask, told):
    """Whether the lot of mask holds at least one of the told ones."""
    return any([holds_mask(mask, inner) for inner in told])


def parting_sentence(yes, no, column):
    """A sentence that holds for the lots yes and not for the lots no, which differ from column on."""
    if not yes:
        return NEVER
    if not no:
        return ALWAYS
    alike_yes = [lot for lot in yes if column in lot]
    alike_no = [lot for lot in no if column in lot]
    unlike_yes = [lot for lot in yes if column not in lot]
    unlike_no = [lot for lot in no if column not in lot]
    alike = parting_sentence(alike_yes, alike_no, column + 1)
    unlike = parting_sentence(unlike_yes, unlike_no, column + 1)
    # Where no lot stands on one side, what the sentence says there does not matter.
    if not alike_yes and not alike_no:
        return unlike
    if not unlike_yes and not unlike_no:
        return alike
    return chosen_sentence(("same", column), alike, unlike)


def chosen_sentence(same, alike, unlike):
    """A sentence that reads as alike where same holds, and as unlike where it does not."""
    if alike == unlike:
        return alike
    if alike == ALWAYS:
        return same if unlike == NEVER else ("or", same, unlike)
    if alike == NEVER:
        return ("not", same) if unlike == ALWAYS else ("and", ("not", same), unlike)
    if unlike == ALWAYS:
        return "or", ("not", same), alike
    if unlike == NEVER:
        return "and", same, alike
    return "or", ("and", same, alike), ("and", ("not", same), unlike)
