"""The spots of the steps of a chain on a table."""

from alikeclash.chains import states_of
from alikeclash.clashes import need_rule_and_table
from alikeclash.finding import chain_of
from alikeclash.helpers import need
from alikeclash.kinds import is_number
from alikeclash.loadsplits import split_groups
from alikeclash.nesting import cells_at, heaviest_group


def spots_of(ground, rule, table):
    """The set of the triples of a step's number, the state ahead of it and a spot of it."""
    need_rule_and_table(ground, rule, table)
    chain = chain_of(ground, rule)
    states = states_of(ground, chain)
    spots = []
    for k in range(len(chain)):
        spots.extend([(k, states[k], group) for group in split_groups(ground, table, states[k])])
    return tuple(spots)


def spot_ties(ground, rule, table, many):
    """The pairs of a spot of step many, which is a step "two", and the web of its cells."""
    need_rule_and_table(ground, rule, table)
    need(is_number(many), "many")
    chain = chain_of(ground, rule)
    need(many < len(chain) and chain[many][0] == "two", "many")
    state = states_of(ground, chain)[many]
    return tuple([(group, web_of_spot(chain[many:], table, group)) for group in split_groups(ground, table, state)])


def web_of_spot(steps, table, group):
    """The web of the cells into which the first of the steps parts the spot."""
    ones = (1,) * len(table)
    cells = cells_at(table, steps[0], group)
    return tuple([(left, right, len(heaviest_group(steps[1:], table, ones, part))) for left, right, part in cells])
