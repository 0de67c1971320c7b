"""Worlds: states with their pushes, ticks and journals."""

from steadybodies.digests import digest
from steadybodies.errors import JointError, TickError
from steadybodies.notation import write_body, write_state, write_vector
from steadybodies.pushing import with_push, without_push
from steadybodies.rows import check_pushed
from steadybodies.states import check_state, find_body
from steadybodies.ticks import ticked

TICK_LIMIT = 400


class World:
    """A state that deeds change, and the journal of all deeds."""

    def __init__(self, state):
        self._state = state
        self._pushes = ()
        self._texts = [write_state(state)]
        # What back returns to: for each number of ticks, the state and how many texts the journal had.
        self._past = [(state, 1)]

    @property
    def state(self):
        """The present state."""
        return self._state

    @property
    def pushes(self):
        """The pushes for the next tick."""
        return self._pushes

    @property
    def ticks(self):
        """How many ticks have been done."""
        return len(self._past) - 1

    @property
    def journal(self):
        """The text of the first state and of all deeds."""
        return "".join(self._texts)

    @property
    def mark(self):
        """The digest of the text of the present state."""
        return digest(write_state(self._state))

    def push(self, name, vector):
        """Puts a vector to the push of a moving body for the next tick."""
        check_pushed(self._state, ((name, vector),))
        self._pushes = with_push(self._pushes, name, vector)
        self._texts.append(f"push {name} {write_vector(vector)}\n")

    def tick(self):
        """Does a tick with the pushes, forgets them and returns the forces."""
        if self.ticks >= TICK_LIMIT:
            raise TickError("the world has done all its ticks")
        # Each deed has checked the state and the pushes that it left.
        state, forces = ticked(self._state, self._pushes)
        self._state = state
        self._pushes = ()
        self._texts.append("tick\n")
        self._past.append((state, len(self._texts)))
        return forces

    def add(self, body):
        """Adds a body."""
        bodies, joints, pull = self._state
        behind = [other for other in bodies if other[0] > body[0]]
        before = bodies[:len(bodies) - len(behind)]
        state = ((*before, body, *behind), joints, pull)
        check_state(state)
        self._state = state
        self._texts.append(f"add {write_body(body)}\n")

    def remove(self, name):
        """Removes a body that has no joint, and its push."""
        bodies, joints, pull = self._state
        gone = find_body(self._state, name)
        if any(name in (joint[0], joint[1]) for joint in joints):
            raise JointError("the body has a joint")
        self._state = (tuple([body for body in bodies if body != gone]), joints, pull)
        self._pushes = without_push(self._pushes, name)
        self._texts.append(f"remove {name}\n")

    def back(self, count):
        """Makes the world what it was directly behind a tick, or at the beginning."""
        if count < 0 or count > self.ticks:
            raise TickError("the world has not done so many ticks")
        state, many = self._past[count]
        self._state = state
        self._pushes = ()
        self._texts = self._texts[:many]
        self._past = self._past[:count + 1]
