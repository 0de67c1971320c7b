"""Islands: moving bodies that tight rows link."""

from steadybodies.errors import IdError
from steadybodies.linking import linked_sets
from steadybodies.rows import check_pushes
from steadybodies.settling import settle, tight_rows
from steadybodies.states import are_moving_names, check_state, is_moving, part_of


def islands(state, pushes):
    """All islands, each the ascending tuple of its names, ascending."""
    check_pushes(state, pushes)
    speeds, _ = settle(state, pushes)
    names = [body[0] for body in state[0] if is_moving(body)]
    links = [[part[0] for part in parts] for _, parts, _ in tight_rows(state, pushes, speeds)]
    return linked_sets(names, links)


def alone(state, island):
    """The state with the bodies of an island and all fixed bodies, and with their joints."""
    check_state(state)
    if not are_moving_names(state[0], island):
        raise IdError("an island is out of order or has a name that is not one of a moving body")
    return part_of(state, island)
