"""The checker of papers of plans, and what all checkers of plans ask."""

from alikeclash.clashes import all_pairs_are
from alikeclash.errors import InvalidPaper
from alikeclash.helpers import is_tuple_of
from alikeclash.kinds import is_group
from alikeclash.loads import need_weighted
from alikeclash.nesting import weight_of
from alikeclash.pieces import given_to, is_piece, pieces_length

# For each form of a paper the word for two rows of the group that is to be heavy.
GROUP_WORDS = {"rounds": True, "cover": False}


def lets_plan(ground, rule, table, weights, thing):
    """Accept papers of plans of rounds and of cover, and return the length of the plan."""
    need_weighted(ground, rule, table, weights)
    if not has_paper_form(thing):
        raise InvalidPaper("shape", -1)
    form, group, pieces = thing
    word = GROUP_WORDS[form]
    if not is_group(len(table), group) or not all_pairs_are(rule, table, group, word):
        raise InvalidPaper("group", 1)
    for k, piece in enumerate(pieces):
        let_piece(rule, table, k, piece, not word)
    let_given(weights, pieces)
    if pieces_length(pieces) != weight_of(weights, group):
        raise InvalidPaper("length", -1)
    return pieces_length(pieces)


def is_rounds_plan(rule, table, weights, thing):
    """Whether any value is a plan of rounds for the weights."""
    if not isinstance(thing, tuple):
        return False
    try:
        for k, piece in enumerate(thing):
            let_piece(rule, table, k, piece, False)
        let_given(weights, thing)
    except InvalidPaper:
        return False
    return True


def has_paper_form(thing):
    """Whether any value is a tuple of a word for the form, something, and a tuple."""
    if not is_tuple_of(3, thing) or thing[0] not in ("rounds", "cover"):
        return False
    return isinstance(thing[2], tuple)


def let_piece(rule, table, k, piece, word):
    """Accept a piece, the k-th one, if the rule says the word for each two rows of its group."""
    if not is_piece(piece) or not is_group(len(table), piece[1]):
        raise InvalidPaper("piece", k)
    if not all_pairs_are(rule, table, piece[1], word):
        raise InvalidPaper("clash", k)


def let_given(weights, pieces):
    """Accept pieces that give each row just its weight."""
    for row in range(len(weights)):
        if given_to(pieces, row) != weights[row]:
            raise InvalidPaper("given", row)
