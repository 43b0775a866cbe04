"""A table with weights that may be changed."""

from alikeclash.chains import with_other_words
from alikeclash.finding import chain_of
from alikeclash.grounds import is_ground
from alikeclash.helpers import need
from alikeclash.kinds import is_number
from alikeclash.loads import need_weighted
from alikeclash.nesting import heaviest_quarrel, quarrel_with, weight_of
from alikeclash.tables import is_row_number


class Nest:
    """A table with the weights that there are now, by a rule with a chain."""

    def __init__(self, ground, rule, table, weights):
        need(is_ground(ground), "ground")
        need_weighted(ground, rule, table, weights)
        self._chain = chain_of(ground, rule)
        self._table = table
        self._weights = list(weights)

    def load_now(self):
        """The load."""
        return weight_of(self._weights, self.quarrel())

    def worth_now(self):
        """The worth."""
        return weight_of(self._weights, self.peace())

    def quarrel(self):
        """A quarrel that weighs the load."""
        return heaviest_quarrel(self._chain, self._table, self._weights)

    def peace(self):
        """A peace that weighs the worth."""
        return heaviest_quarrel(with_other_words(self._chain), self._table, self._weights)

    def weigh(self, row, many):
        """Give the row the weight many, and return the load that there is then."""
        need(is_row_number(self._table, row), "row")
        need(is_number(many), "many")
        self._weights[row] = many
        return self.load_now()

    def through(self, row):
        """The greatest weight of a quarrel that has the row."""
        need(is_row_number(self._table, row), "row")
        return weight_of(self._weights, quarrel_with(self._chain, self._table, self._weights, row))

    def spare(self, row):
        """The greatest number that can be added to the row's weight without making the load greater."""
        need(is_row_number(self._table, row), "row")
        return self.load_now() - self.through(row)
