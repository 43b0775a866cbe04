"""Finding the plain chain of a rule, or a triple of a rule without a chain.

Lots are masks here, words what the rule says by masks.
"""

from alikeclash.chainchecker import state_behind_step
from alikeclash.errors import Refused
from alikeclash.grounds import base_mask, closed_mask, is_said, mask_pairs, whole_mask
from alikeclash.helpers import need
from alikeclash.lots import holds_mask, lot_of, mask_of
from alikeclash.rules import is_rule, words_by_mask
from alikeclash.turning import lots_told, turning_masks


def chain_of(ground, rule):
    """The plain chain of the rule; Refused tells a triple if there is none."""
    need(is_rule(ground, rule), "rule")
    words = words_by_mask(ground, rule)
    chain, stuck = plain_walk(ground, words)
    if stuck is not None:
        raise Refused(triple_about(ground, words, stuck))
    return chain


def has_chain(ground, rule):
    """Whether the rule has a chain."""
    need(is_rule(ground, rule), "rule")
    _, stuck = plain_walk(ground, words_by_mask(ground, rule))
    return stuck is None


def next_step(ground, rule, lot):
    """The step that the plain chain takes at the lot, or None."""
    need(is_rule(ground, rule), "rule")
    need(is_said(ground, lot), "lot")
    return step_about(words_by_mask(ground, rule), mask_of(lot))


def plain_walk(ground, words):
    """The plain chain and None; or the steps up to a state without a step, and this state."""
    pairs = mask_pairs(ground)
    state = base_mask(ground)
    steps = []
    while state != whole_mask(ground) and (not steps or steps[-1][0] != "end"):
        step = step_about(words, state)
        if step is None:
            return tuple(steps), state
        steps.append(step)
        state = state_behind_step(pairs, state, step)
    return tuple(steps), None


def step_about(words, state):
    """The step that the plain chain takes at the state, or None."""
    word = words[state]
    turned = turning_masks(words, state)
    if not turned:
        return "end", word
    if len(turned) == 1:
        return "one", lot_of(turned[0]), word
    if len(turned) > 2:
        return None
    meet = turned[0] & turned[1]
    if meet != state:
        return "one", lot_of(meet), word
    if stray_masks(words, turned[0], turned[1], word):
        return None
    lot, other = lots_told(turned)
    return "two", lot, other, word


def stray_masks(words, one, another, word):
    """The masks that hold just one of both and to which the rule says the word."""
    return [mask for mask in words if words[mask] == word and holds_mask(mask, one) != holds_mask(mask, another)]


def triple_about(ground, words, state):
    """A triple of the rule whose lots hold the state, at which there is no step."""
    word = words[state]
    turned = turning_masks(words, state)
    if len(turned) > 2:
        # Turning lots hold no other one, so their meets are said the state's word.
        return ("three",) + lots_told(turned[:3])
    stray = stray_masks(words, turned[0], turned[1], word)[0]
    one, another = turned
    if not holds_mask(stray, one):
        another, one = turned
    closing = closed_mask(mask_pairs(ground), one | (another & stray))
    # The closing is within the stray lot; if it is said the same word, it takes its place.
    if words[closing] == word:
        stray = closing
    return "two", lot_of(one), lot_of(another), lot_of(stray)
