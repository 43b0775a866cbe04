"""How many chains and rules there are on grounds without dependences."""

from math import comb

from alikeclash.helpers import need
from alikeclash.kinds import is_word


def many_chains(size):
    """How many rules of the ground of the size have a chain."""
    free, _ = tail_counts(size)
    return free[size]


def many_fits(size):
    """How many rules of the ground of the size may be trusted with "fit"."""
    counts = [1]
    for many in range(1, size + 1):
        counts.append(1 + sum([comb(many, new) * counts[many - new] for new in range(1, many + 1)]))
    return counts[size]


def many_turned(size, w):
    """How many plain chains of the ground of the size begin with the word w."""
    need(is_word(w), "w")
    # With all words exchanged, plain chains stay plain; so each word begins one half of them.
    return many_chains(size) // 2


def tail_counts(size):
    """How many ways a plain chain can go on, for each number of columns outside its state.

    Two lists: behind no step "one", and directly behind one, where one word is barred.
    """
    free = [1]
    behind_one = [0]
    for many in range(1, size + 1):
        ones = sum([comb(many, new) * behind_one[many - new] for new in range(1, many)])
        # The new columns fall into two parts that are not empty, and each word may stand.
        twos = sum([comb(many, new) * ((1 << new) - 2) * free[many - new] for new in range(2, many + 1)])
        free.append(2 + 2 * ones + twos)
        behind_one.append(1 + ones + twos)
    return free, behind_one
