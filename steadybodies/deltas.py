"""Differences of states: what makes one state of another one."""

from steadybodies.errors import IdError
from steadybodies.states import check_state


def difference(one, other):
    """The items that make the other state of the one."""
    check_state(one)
    check_state(other)
    old = {body[0]: body for body in one[0]}
    new = {body[0]: body for body in other[0]}
    changes = [body for body in other[0] if old.get(body[0]) != body]
    ways = [body for body in changes if body[0] in old and lasting(old[body[0]]) == lasting(body)]
    items = [("gone", name) for name in old if name not in new]
    items.extend([("body", body) for body in changes if body not in ways])
    items.extend([("way", body[0], body[1], body[5]) for body in ways])
    if one[1] != other[1]:
        items.append(("joints", other[1]))
    if one[2] != other[2]:
        items.append(("pull", other[2]))
    return tuple(items)


def lasting(body):
    """What of a body is neither its place nor its speed."""
    name, _, size, mass, grip, _ = body
    return (name, size, mass, grip)


def changed(state, items):
    """The state that items, one after the other, make of a state."""
    check_state(state)
    bodies, joints, pull = state
    body_named = {body[0]: body for body in bodies}
    for item in items:
        if item[0] == "joints":
            joints = item[1]
        elif item[0] == "pull":
            pull = item[1]
        else:
            change_body(body_named, item)
    result = (tuple([body_named[name] for name in sorted(body_named)]), joints, pull)
    check_state(result)
    return result


def change_body(body_named, item):
    """Changes bodies by name by an item about one of them."""
    kind = item[0]
    if kind == "body":
        body = item[1]
        body_named[body[0]] = body
        return
    name = item[1]
    if name not in body_named:
        raise IdError("an item names no body")
    if kind == "gone":
        del body_named[name]
    else:
        _, _, size, mass, grip, _ = body_named[name]
        body_named[name] = (name, item[2], size, mass, grip, item[3])
