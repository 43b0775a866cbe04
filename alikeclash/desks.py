"""Some live tables of one ground and rule, told by their names."""

from alikeclash.finding import chain_of
from alikeclash.grounds import is_ground
from alikeclash.helpers import need
from alikeclash.live import LiveTable
from alikeclash.liveasks import load_now, snapshot, worth_now

LETTERS = "abcdefghijklmnopqrstuvwxyz"


class Desk:
    """The live tables by their names."""

    def __init__(self, ground, rule):
        need(is_ground(ground), "ground")
        # What is no rule, or a rule without a chain, is refused here, not only when a table is begun.
        chain_of(ground, rule)
        self._ground = ground
        self._rule = rule
        self._tables = {}

    def open_table(self, name):
        """Begin a live table."""
        need(is_table_name(name) and name not in self._tables, "name")
        self._tables[name] = LiveTable(self._ground, self._rule)

    def do(self, name, event):
        """Do the event in the table, and return the name of a row that came."""
        need(is_table_name(name) and name in self._tables, "name")
        return self._tables[name].go(event)

    def snapshot_of(self, name):
        """The table, the weights and the names of its rows."""
        need(is_table_name(name) and name in self._tables, "name")
        return snapshot(self._tables[name])

    def names(self):
        """The names of the tables."""
        return tuple(sorted(list(self._tables)))

    def loads(self):
        """The pairs of the tables' names and loads."""
        return tuple([(name, load_now(self._tables[name])) for name in self.names()])

    def heaviest_name(self):
        """The first name of a table with the greatest load, or None."""
        loads = self.loads()
        greatest = max([load for _, load in loads], default=0)
        heaviest = [name for name, load in loads if load == greatest]
        return heaviest[0] if heaviest else None

    def report(self):
        """A line for each table."""
        return "\n".join([report_line(name, self._tables[name]) for name in self.names()])


def is_table_name(thing):
    """Whether any value is a string of one to twelve small letters."""
    return isinstance(thing, str) and 1 <= len(thing) <= 12 and all([sign in LETTERS for sign in thing])


def report_line(name, live):
    """What the report tells of a table."""
    rows = len(live.table_now())
    return f"{name}: rows {rows}, load {load_now(live)}, worth {worth_now(live)}"
