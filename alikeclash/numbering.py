"""The plain chains of grounds without dependences, numbered as they ascend."""

from alikeclash.chainchecker import is_chain, state_behind_step
from alikeclash.counting import many_chains, tail_counts
from alikeclash.helpers import need
from alikeclash.kinds import is_number
from alikeclash.lots import lot_of
from alikeclash.plains import is_plain

WORDS = (False, True)


def chain_at(size, many):
    """The plain chain with the number many."""
    need(is_number(many) and many < many_chains(size), "many")
    counts = tail_counts(size)
    ahead = many
    chain = []
    state = 0
    while not has_stopped(size, chain, state):
        for step in steps_at(size, chain, state):
            behind = many_behind(size, counts, state, step)
            if ahead < behind:
                break
            ahead -= behind
        chain.append(step)
        state = state_behind_step([], state, step)
    return tuple(chain)


def number_of(size, chain):
    """The number of the plain chain."""
    ground = (size, ())
    need(is_chain(ground, chain) and is_plain(ground, chain), "chain")
    counts = tail_counts(size)
    number = 0
    state = 0
    for k, step in enumerate(chain):
        lesser = [other for other in steps_at(size, chain[:k], state) if other < step]
        number += sum([many_behind(size, counts, state, other) for other in lesser])
        state = state_behind_step([], state, step)
    return number


def has_stopped(size, chain, state):
    """Whether the chain, with this state behind it, has stopped."""
    return state == (1 << size) - 1 or (len(chain) > 0 and chain[-1][0] == "end")


def steps_at(size, chain, state):
    """All steps, ascending, that a plain chain may take at the state behind the chain."""
    words = WORDS
    if len(chain) > 0 and chain[-1][0] == "one":
        words = (not chain[-1][-1],)
    added = [mask for mask in range(1, 1 << size) if mask & state == 0]
    steps = [("end", word) for word in words]
    for mask in added:
        if mask | state != (1 << size) - 1:
            steps.extend([("one", lot_of(mask | state), word) for word in words])
        for other in added:
            if mask & other == 0 and lot_of(mask | state) < lot_of(other | state):
                steps.extend([("two", lot_of(mask | state), lot_of(other | state), word) for word in WORDS])
    return sorted(steps)


def many_behind(size, counts, state, step):
    """How many ways a plain chain can go on behind the step, counts being the tail_counts."""
    free, behind_one = counts
    if step[0] == "end":
        return 1
    left = size - len(lot_of(state_behind_step([], state, step)))
    return behind_one[left] if step[0] == "one" else free[left]
