"""What a live table is asked; groups are told as sets of names."""

from alikeclash.changing import spare_of
from alikeclash.clashes import clashing_with
from alikeclash.helpers import need
from alikeclash.kinds import is_number
from alikeclash.live import LiveTable
from alikeclash.loads import load_of, peace_of, quarrel_of, worth_of
from alikeclash.roundplans import rounds_plan


def snapshot(live):
    """The table, the weights and the names."""
    need_live(live)
    return live.table_now(), live.weights_now(), live.names_now()


def load_now(live):
    """The load."""
    ground, rule, table, weights = asked_about(live)
    return load_of(ground, rule, table, weights)


def worth_now(live):
    """The worth."""
    ground, rule, table, weights = asked_about(live)
    return worth_of(ground, rule, table, weights)


def quarrel_now(live):
    """A heaviest quarrel."""
    ground, rule, table, weights = asked_about(live)
    return named(live, quarrel_of(ground, rule, table, weights))


def peace_now(live):
    """A heaviest peace."""
    ground, rule, table, weights = asked_about(live)
    return named(live, peace_of(ground, rule, table, weights))


def plan_now(live):
    """A plan of rounds as long as the load."""
    ground, rule, table, weights = asked_about(live)
    return tuple([(length, named(live, group)) for length, group in rounds_plan(ground, rule, table, weights)])


def spare_now(live, name):
    """By how much the weight of the row can be raised without making the load greater."""
    ground, rule, table, weights = asked_about(live)
    return spare_of(ground, rule, table, weights, row_named(live, name))


def clashes_now(live, name):
    """The set of the names of the rows that clash with the row."""
    ground, rule, table, _ = asked_about(live)
    return named(live, clashing_with(ground, rule, table, row_named(live, name)))


def need_live(live):
    """Refuse what is no live table."""
    need(isinstance(live, LiveTable), "live")


def asked_about(live):
    """The ground, the rule, the table and the weights."""
    need_live(live)
    ground, rule = live.about()
    return ground, rule, live.table_now(), live.weights_now()


def row_named(live, name):
    """The number of the row with this name."""
    names = live.names_now()
    need(is_number(name) and name in names, "name")
    return names.index(name)


def named(live, group):
    """The set of the names of the rows of the group."""
    names = live.names_now()
    return tuple([names[row] for row in group])
