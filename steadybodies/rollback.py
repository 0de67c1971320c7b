"""Late pushes: ticks that are done again when a push for one of them comes late."""

from steadybodies.errors import TickError
from steadybodies.pushing import with_push
from steadybodies.rows import check_pushed
from steadybodies.states import check_state
from steadybodies.ticks import ticked
from steadybodies.worlds import TICK_LIMIT

REACH = 20


class Rollback:
    """A state that ticks lead on, with pushes that may come behind their ticks or before them."""

    def __init__(self, state):
        check_state(state)
        # The states at all numbers of ticks so far, and the pushes of ticks that have any.
        self._states = [state]
        self._pushes_of = {}

    @property
    def state(self):
        """The present state."""
        return self._states[-1]

    @property
    def number(self):
        """How many ticks have been done."""
        return len(self._states) - 1

    def push(self, at, name, vector):
        """Puts a vector to the push of a moving body for the tick with this number."""
        if at < 0 or abs(at - self.number) > REACH:
            raise TickError("the tick lies too far away, or before the first one")
        check_pushed(self.state, ((name, vector),))
        self._pushes_of[at] = with_push(self._pushes_of.get(at, ()), name, vector)
        self._do_again(at)

    def advance(self):
        """Does the next tick."""
        if self.number >= TICK_LIMIT:
            raise TickError("all ticks have been done")
        self._do_tick()

    def state_at(self, at):
        """The state at a number of ticks, up to the present one."""
        if at < 0 or at > self.number:
            raise TickError("there is no state at this number of ticks")
        return self._states[at]

    def _do_tick(self):
        state, _ = ticked(self.state, self._pushes_of.get(self.number, ()))
        self._states.append(state)

    def _do_again(self, at):
        """Does all ticks again from the one with this number on, as far as they have been done."""
        count = self.number
        self._states = self._states[:at + 1]
        while self.number < count:
            self._do_tick()
