"""Grounds as objects."""

from alikeclash.grounds import are_dependences, closed_lots, closing_of, same_ground
from alikeclash.helpers import need
from alikeclash.kinds import is_number
from alikeclash.tablelines import ground_text
from alikeclash.tables import first_unkept


class Ground:
    """A ground; equal to another one with the same size and the same closed lots."""

    def __init__(self, size, dependences):
        need(is_number(size), "size")
        need(are_dependences(size, dependences), "dependences")
        self.size_of = size
        self._pair = (size, dependences)

    def __eq__(self, other):
        return isinstance(other, Ground) and same_ground(self._pair, other._pair)

    def closing(self, lot):
        """The closing of the lot."""
        return closing_of(self._pair, lot)

    def closed(self):
        """The set of all closed lots."""
        return closed_lots(self._pair)

    def keeps(self, rows):
        """Whether the rows keep all dependences."""
        return first_unkept(self._pair, rows) is None

    def text(self):
        """The text of the ground."""
        return ground_text(self._pair)
