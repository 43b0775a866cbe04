"""A table that changes by events, with a log of them."""

from alikeclash.errors import InvalidEvent, NothingToUndo
from alikeclash.finding import chain_of
from alikeclash.grounds import is_ground
from alikeclash.helpers import need
from alikeclash.kinds import is_integer
from alikeclash.livestates import EMPTY_STATE, moved_state
from alikeclash.nesting import heaviest_quarrel, weight_of


class LiveTable:
    """A table of a ground, with a rule that has a chain."""

    def __init__(self, ground, rule):
        need(is_ground(ground), "ground")
        # What is no rule, or a rule without a chain, is refused here.
        self._chain = chain_of(ground, rule)
        self._ground = ground
        self._rule = rule
        # The states ahead of each event of the log, and the one that there is now.
        self._states = [EMPTY_STATE]
        self._log = []
        self._done = 0
        self._taken_back = 0
        self._refused = 0

    def go(self, event):
        """Do the event, and return the name of a row that came."""
        return self.do_all((event,))[0]

    def come(self, row, weight):
        """Let a row come, and return its name."""
        return self.go(("come", row, weight))

    def leave(self, name):
        """Let the row with this name leave."""
        return self.go(("leave", name))

    def weigh(self, name, weight):
        """Give the row with this name another weight."""
        return self.go(("weigh", name, weight))

    def names_now(self):
        """The names of the rows."""
        return self.state_now()[2]

    def table_now(self):
        """The table."""
        return self.state_now()[0]

    def weights_now(self):
        """The weights."""
        return self.state_now()[1]

    def state_now(self):
        """The state."""
        return self._states[-1]

    def about(self):
        """The ground and the rule."""
        return self._ground, self._rule

    def tried(self, event):
        """The load that there would be behind the event."""
        table, weights, _, _ = moved_state(self._ground, self.state_now(), event)
        return weight_of(weights, heaviest_quarrel(self._chain, table, weights))

    def undo(self, steps=1):
        """Take back the last events of the log, so many."""
        need(is_integer(steps) and steps >= 1, "steps")
        if len(self._log) < steps:
            raise NothingToUndo(steps)
        kept = len(self._log) - steps
        self._states = self._states[:kept + 1]
        self._log = self._log[:kept]
        self._taken_back += steps

    def do_all(self, events):
        """Do the events, or none of them, and return for each the name of a row that came."""
        need(isinstance(events, tuple), "events")
        states = [self.state_now()]
        try:
            for event in events:
                states.append(moved_state(self._ground, states[-1], event))
        except InvalidEvent:
            self._refused += 1
            raise
        self._states.extend(states[1:])
        self._log.extend(list(events))
        self._done += len(events)
        return tuple([state[3] if event[0] == "come" else None for event, state in zip(events, states)])

    def log(self):
        """The events done and not taken back."""
        return tuple(self._log)

    def tally(self):
        """How many events were done ever, how many taken back, and how many calls were refused."""
        return self._done, self._taken_back, self._refused
