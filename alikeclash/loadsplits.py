"""Tables parted by lots and by the first step of a chain."""

from alikeclash.finding import chain_of
from alikeclash.helpers import need
from alikeclash.kinds import is_lot
from alikeclash.loads import need_weighted, worth_of
from alikeclash.nesting import alike_parts, heaviest_group, parts_at, weight_of
from alikeclash.tables import is_table


def split_groups(ground, table, lot):
    """The set of the groups into which alikeness in all columns of the lot parts the rows."""
    need(is_table(ground, table), "table")
    need(is_lot(ground[0], lot), "lot")
    return tuple(alike_parts(table, lot, tuple(range(len(table)))))


def split_loads(ground, rule, table, weights):
    """The set of the groups into which the first step parts the rows, each with its load."""
    need_weighted(ground, rule, table, weights)
    chain = chain_of(ground, rule)
    rows = tuple(range(len(table)))
    # Where the chain has no step, there is at most one row.
    parts = parts_at(table, chain[0], rows) if chain else [(row,) for row in rows]
    heaviest = [heaviest_group(chain[1:], table, weights, part) for part in parts]
    return tuple([(part, weight_of(weights, group)) for part, group in zip(parts, heaviest)])


def weight_off(ground, rule, table, weights):
    """The least weight of rows without which the others are a peace."""
    worth = worth_of(ground, rule, table, weights)
    return sum(weights) - worth
