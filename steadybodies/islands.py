"""Islands: moving bodies that tight rows link."""

from steadybodies.errors import IdError
from steadybodies.rows import check_pushes
from steadybodies.settling import settle, tight_rows
from steadybodies.states import check_state, is_moving


def islands(state, pushes):
    """All islands, each the ascending tuple of its names, ascending."""
    check_pushes(state, pushes)
    speeds, _ = settle(state, pushes)
    island_of = {body[0]: (body[0],) for body in state[0] if is_moving(body)}
    for _, parts, _ in tight_rows(state, pushes, speeds):
        names = [part[0] for part in parts]
        joined = tuple(sorted({member for name in names for member in island_of[name]}))
        for member in joined:
            island_of[member] = joined
    return tuple(sorted(set(list(island_of.values()))))


def alone(state, island):
    """The state with the bodies of an island and all fixed bodies, and with their joints."""
    check_state(state)
    bodies, joints, pull = state
    check_island(bodies, island)
    left = [body for body in bodies if not is_moving(body) or body[0] in island]
    names = {body[0]: True for body in left}
    return (
        tuple(left),
        tuple([joint for joint in joints if joint[0] in names and joint[1] in names]),
        pull,
    )


def check_island(bodies, island):
    """Raises IdError if the names do not strictly ascend or one is not that of a moving body."""
    moving = {body[0]: True for body in bodies if is_moving(body)}
    before = -1
    for name in island:
        if name <= before or name not in moving:
            raise IdError("an island is out of order or has a name that is not one of a moving body")
        before = name
