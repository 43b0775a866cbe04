"""Grounds made from a size or from other grounds."""

from alikeclash.helpers import need
from alikeclash.kinds import is_lot, is_number, is_sequence


def free_ground(size):
    """The ground of the size without dependences."""
    return size, ()


def with_dependence(ground, here, there):
    """The ground with (here, there) put among its dependences."""
    need(is_lot(ground[0], here), "here")
    need(is_lot(ground[0], there), "there")
    return ground[0], with_those(ground[1], [(here, there)])


def held_ground(ground, lot):
    """The ground with ((), lot) put among its dependences."""
    need(is_lot(ground[0], lot), "lot")
    return ground[0], with_those(ground[1], [((), lot)])


def renamed_ground(ground, sequence):
    """The ground in which column i is called sequence[i]."""
    need(is_sequence(ground[0], sequence), "sequence")
    renamed = [(renamed_lot(sequence, here), renamed_lot(sequence, there)) for here, there in ground[1]]
    return ground[0], tuple(sorted(renamed))


def doubled_ground(ground, column):
    """The ground with one more column, which is alike just where column is."""
    size, dependences = ground
    need(is_number(column) and column < size, "column")
    return size + 1, with_those(dependences, [((column,), (size,)), ((size,), (column,))])


def with_those(dependences, more):
    """The set of the dependences and of more of them."""
    return tuple(sorted(set(dependences) | set(more)))


def renamed_lot(sequence, lot):
    """The lot with each column i replaced by sequence[i]."""
    return tuple(sorted([sequence[column] for column in lot]))
