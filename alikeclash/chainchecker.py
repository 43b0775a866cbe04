"""The checker of chains, and how a step changes the state.

States are masks here, pairs the mask_pairs of the ground.
"""

from alikeclash.errors import InvalidPaper
from alikeclash.grounds import base_mask, closed_mask, is_said, mask_pairs, whole_mask
from alikeclash.kinds import is_lot, is_word
from alikeclash.lots import holds_mask, mask_of

# How many lots a step has.
STEP_LOTS = {"end": 0, "one": 1, "two": 2}


def lets_chain(ground, thing):
    """Accept the chains of the ground, and return how many steps "two" the chain has."""
    if not isinstance(thing, tuple):
        raise InvalidPaper("shape", -1)
    pairs = mask_pairs(ground)
    state = base_mask(ground)
    stopped = state == whole_mask(ground)
    for k, step in enumerate(thing):
        if stopped:
            raise InvalidPaper("end", k)
        if not is_step(ground[0], step):
            raise InvalidPaper("step", k)
        if not fits_state(ground, state, step):
            raise InvalidPaper("lot", k)
        state = state_behind_step(pairs, state, step)
        stopped = step[0] == "end" or state == whole_mask(ground)
    if not stopped:
        raise InvalidPaper("open", -1)
    return len([step for step in thing if step[0] == "two"])


def is_chain(ground, thing):
    """Whether thing is a chain of the ground."""
    try:
        lets_chain(ground, thing)
    except InvalidPaper:
        return False
    return True


def is_step(size, thing):
    """Whether thing has the form of a step, with any lots of the size."""
    if not isinstance(thing, tuple) or thing == () or not isinstance(thing[0], str):
        return False
    if thing[0] not in STEP_LOTS or len(thing) != STEP_LOTS[thing[0]] + 2:
        return False
    return is_word(thing[-1]) and all([is_lot(size, lot) for lot in thing[1:-1]])


def fits_state(ground, state, step):
    """Whether the lots of the step are as they must be at the state."""
    lots = step[1:-1]
    masks = [mask_of(lot) for lot in lots]
    if state in masks or not all([is_said(ground, lot) for lot in lots]):
        return False
    if step[0] == "one":
        return holds_mask(masks[0], state)
    if step[0] == "two":
        return lots[0] < lots[1] and masks[0] & masks[1] == state
    return True


def state_behind_step(pairs, state, step):
    """The state behind a step; "end" does not change it."""
    if step[0] == "one":
        return mask_of(step[1])
    if step[0] == "two":
        return closed_mask(pairs, mask_of(step[1]) | mask_of(step[2]))
    return state


def state_masks(ground, chain):
    """The states ahead of each step of a chain, and the one behind all."""
    pairs = mask_pairs(ground)
    states = [base_mask(ground)]
    for step in chain:
        states.append(state_behind_step(pairs, states[-1], step))
    return states
