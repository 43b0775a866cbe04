"""Whether any value is of a kind."""

from math import gcd

from alikeclash.helpers import ascends, is_tuple_of


def is_integer(thing):
    """Whether thing is an int that is not a bool."""
    return isinstance(thing, int) and not isinstance(thing, bool)


def is_number(thing):
    """Whether thing is an integer that is at least 0."""
    return is_integer(thing) and thing >= 0


def is_word(thing):
    """Whether thing is True or False."""
    return isinstance(thing, bool)


def is_quotient(thing):
    """Whether thing is a pair (top, bottom) in lowest terms, bottom at least 1."""
    if not is_tuple_of(2, thing) or not all([is_integer(part) for part in thing]):
        return False
    return thing[1] >= 1 and gcd(thing[0], thing[1]) == 1


def is_lot(size, thing):
    """Whether thing is a set of columns of the size."""
    return are_numbers_below(size, thing) and ascends(thing)


def is_dependence(size, thing):
    """Whether thing is a pair of lots of the size."""
    return is_tuple_of(2, thing) and all([is_lot(size, part) for part in thing])


def is_group(many, thing):
    """Whether thing is a set of numbers below many."""
    return are_numbers_below(many, thing) and ascends(thing)


def is_sequence(many, thing):
    """Whether thing is a tuple that has each number below many once."""
    # The length is compared first because many may be far too large to count up to.
    if not is_tuple_of(many, thing) or not are_numbers_below(many, thing):
        return False
    return len(set(thing)) == len(thing)


def is_weights(many, thing):
    """Whether thing is a tuple of many numbers."""
    return is_tuple_of(many, thing) and all([is_number(weight) for weight in thing])


def is_shares(many, thing):
    """Whether thing is a tuple of many quotients that are at least 0."""
    if not is_tuple_of(many, thing):
        return False
    return all([is_quotient(share) and share[0] >= 0 for share in thing])


def are_numbers_below(limit, thing):
    """Whether thing is a tuple of numbers that are below the limit."""
    return isinstance(thing, tuple) and all([is_number(part) and part < limit for part in thing])
