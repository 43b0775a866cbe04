"""Shares of a table that are given row by row, within a time."""

from alikeclash.clashes import need_rule_and_table
from alikeclash.finding import chain_of
from alikeclash.grounds import is_ground
from alikeclash.helpers import need
from alikeclash.hourkinds import NOUGHT, standing_at
from alikeclash.hourplans import shortest_hours
from alikeclash.quotients import minus
from alikeclash.sharing import fullest_quarrel, fullest_with, is_share, let_within, sum_of_shares
from alikeclash.tables import is_row_number


class Hours:
    """The shares that there are now, of which no quarrel's sum is above the time."""

    def __init__(self, ground, rule, table, time):
        need(is_ground(ground), "ground")
        need_rule_and_table(ground, rule, table)
        need(is_share(time), "time")
        self._chain = chain_of(ground, rule)
        self._table = table
        self._time = time
        self._shares = (NOUGHT,) * len(table)

    def give(self, row, share):
        """Set the share of the row, and return the greatest sum of a quarrel."""
        need(is_row_number(self._table, row), "row")
        need(is_share(share), "share")
        shares = self._shares[:row] + (share,) + self._shares[row + 1:]
        let_within(self._chain, self._table, shares, self._time)
        self._shares = shares
        return sum_of_shares(shares, fullest_quarrel(self._chain, self._table, shares))

    def more(self, row):
        """How much the share of the row can be raised at most."""
        need(is_row_number(self._table, row), "row")
        quarrel = fullest_with(self._chain, self._table, self._shares, row)
        return minus(self._time, sum_of_shares(self._shares, quarrel))

    def given_now(self):
        """All shares."""
        return self._shares

    def plan(self):
        """Hours for the shares of length at most time."""
        return shortest_hours(self._chain, self._table, self._shares)

    def stands(self, moment):
        """The group that is gone through at the moment of these hours."""
        return standing_at(self.plan(), moment)
