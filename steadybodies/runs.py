"""Runs: ticks in a row with papers, by which others can check them without solving anything.

A run is a tuple of steps (pushes, speeds, forces), one for each tick.
"""

from steadybodies.errors import PushError, TickError
from steadybodies.rows import check_pushed
from steadybodies.states import check_state
from steadybodies.ticks import are_forces, ticked, with_speeds
from steadybodies.worlds import TICK_LIMIT


def record(state, rows_of_pushes):
    """The run of ticks with these pushes."""
    check_start(state, rows_of_pushes)
    run = []
    for pushes in rows_of_pushes:
        check_pushed(state, pushes)
        state, forces = ticked(state, pushes)
        run.append((pushes, tuple([body[5] for body in state[0]]), forces))
    return tuple(run)


def check_run(state, run):
    """The state behind a run, or None if one of its steps is not what its tick must be."""
    check_start(state, run)
    for pushes, speeds, forces in run:
        try:
            check_pushed(state, pushes)
        except PushError:
            return None
        if not are_forces(state, pushes, speeds, forces):
            return None
        state = with_speeds(state, speeds)
    return state


def check_start(state, steps):
    """Raises the errors of the state, or TickError if there are too many steps."""
    check_state(state)
    if len(steps) > TICK_LIMIT:
        raise TickError("there are too many ticks")
