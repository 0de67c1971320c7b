"""Rest: bodies that do not move and will not move."""

from steadybodies.rows import check_pushes
from steadybodies.settling import settle
from steadybodies.states import STANDING, is_moving


def still(state, pushes):
    """The names of all moving bodies whose speed is 0 and stays 0, ascending."""
    check_pushes(state, pushes)
    speeds, _ = settle(state, pushes)
    return tuple([
        body[0]
        for body, speed in zip(state[0], speeds)
        if is_moving(body) and body[5] == STANDING and speed == STANDING
    ])


def at_rest(state, pushes):
    """Whether all moving bodies are still."""
    names = still(state, pushes)
    return all(body[0] in names for body in state[0] if is_moving(body))
