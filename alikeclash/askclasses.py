"""Asking about a rule with a chain, lot by lot."""

from alikeclash.asking import asked_lots, is_asked
from alikeclash.blocks import rule_told_by, untold_mask
from alikeclash.errors import InvalidEvent, Unfit
from alikeclash.helpers import need
from alikeclash.kinds import is_number, is_word
from alikeclash.lots import lot_of, mask_of, whole_of


class Asker:
    """What has been told about a rule, and what is still to be asked."""

    def __init__(self, size):
        need(is_number(size), "size")
        self._size = size
        self._words = {}

    def open_lots(self):
        """The set of the asked lots that are not told."""
        return tuple([lot for lot in asked_lots(self._size) if mask_of(lot) not in self._words])

    def tell(self, lot, w):
        """Note the answer w to the lot."""
        if not is_asked(self._size, lot) or mask_of(lot) in self._words:
            raise InvalidEvent((lot, w), "lot")
        if not is_word(w):
            raise InvalidEvent((lot, w), "word")
        self._words[mask_of(lot)] = w

    def told(self):
        """The set of the asked lots that are told yes."""
        return tuple([lot for lot in asked_lots(self._size) if self._words.get(mask_of(lot), False)])

    def next_lot(self):
        """A lot that is still to be told, or None."""
        few = [lot for lot in self.open_lots() if len(lot) <= 2]
        if few:
            return few[0]
        mask = untold_mask(self._size, self._words)
        return None if mask is None else lot_of(mask)

    def finish(self):
        """The rule with a chain that answers all that is told as told."""
        if self.next_lot() is not None:
            raise InvalidEvent((), "open")
        rule = rule_told_by(self._size, self._words)
        if rule is None:
            raise Unfit(whole_of(self._size))
        return rule
