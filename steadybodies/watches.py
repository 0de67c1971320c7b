"""Watches: zones that are told of ticks, and the events there."""

from steadybodies.boxes import check_box, moved, overlaps
from steadybodies.errors import RowError
from steadybodies.rows import check_pushes
from steadybodies.settling import settle
from steadybodies.states import STANDING, box_of_body
from steadybodies.sweeps import overlap_times


class Watch:
    """Zones that stand still, and which bodies are inside them."""

    def __init__(self, zones):
        for zone in zones:
            check_box(zone)
        self._zones = zones
        self._inside = [()] * len(zones)

    def told(self, state, pushes):
        """The events of a tick, for the state before it and its pushes."""
        check_pushes(state, pushes)
        speeds, _ = settle(state, pushes)
        ways = [(body[0], box_of_body(body), speed) for body, speed in zip(state[0], speeds)]
        events = []
        for at, zone in enumerate(self._zones):
            for kind, name in events_of(zone, ways, self._inside[at]):
                events.append((kind, at, name))
        self._inside = [names_inside(zone, ways) for zone in self._zones]
        return tuple(events)

    def inside(self, zone):
        """The names of the bodies that are inside a zone at the end of the last tick, ascending."""
        if zone < 0 or zone >= len(self._zones):
            raise RowError("there is no such zone")
        return self._inside[zone]


def events_of(zone, ways, before):
    """The pairs (kind, name) of a zone for ways (name, box, speed), before having the names inside till now."""
    events = []
    after = names_inside(zone, ways)
    for name, box, speed in ways:
        passes = overlap_times(box, speed, zone, STANDING) is not None
        if passes and name not in before:
            events.append(("enter", name))
        if (passes or name in before) and name not in after:
            events.append(("leave", name))
    return events


def names_inside(zone, ways):
    """The names of all bodies that are inside a zone behind their ways (name, box, speed)."""
    return tuple([name for name, box, speed in ways if overlaps(moved(box, speed), zone)])
