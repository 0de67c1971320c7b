"""Pushes that come one by one."""

from steadybodies.states import STANDING
from steadybodies.vectors import add


def with_push(pushes, name, vector):
    """The pushes with a further one, which is added to an earlier one on the same body."""
    push_of = dict(pushes)
    push_of[name] = add(push_of.get(name, STANDING), vector)
    return tuple(sorted(push_of.items()))


def without_push(pushes, name):
    """The pushes without the one on a body."""
    return tuple([push for push in pushes if push[0] != name])
