"""The broad phase: boxes under ids, and which of them meet."""

from steadybodies.boxes import check_box, ends_meet, ends_of
from steadybodies.errors import IdError


def check_unused(boxes, name):
    """Raises IdError if an id is negative or has a box."""
    if name < 0 or name in boxes:
        raise IdError("the id is negative or in use")


def check_used(boxes, name):
    """Raises IdError if an id has no box."""
    if name not in boxes:
        raise IdError("the id is not in use")


class Broad:
    """Holds boxes under ids and knows at every moment which of them meet."""

    def __init__(self):
        self.boxes = {}
        self.ends = {}
        self.partners = {}

    @property
    def names(self):
        """All ids, ascending."""
        return tuple(sorted(self.boxes))

    def add(self, name, box):
        """Puts a box under a new id."""
        check_unused(self.boxes, name)
        check_box(box)
        self._put(name, box)

    def move(self, name, box):
        """Puts another box under an id."""
        check_used(self.boxes, name)
        check_box(box)
        self._take(name)
        self._put(name, box)

    def remove(self, name):
        """Removes an id and its box."""
        check_used(self.boxes, name)
        self._take(name)

    def pairs(self):
        """All pairs (i, j) of ids, i < j, of boxes that meet, ascending."""
        return tuple([
            (one, other)
            for one in sorted(self.partners)
            for other in sorted(self.partners[one])
            if one < other
        ])

    def near(self, box):
        """All ids whose boxes meet a box, ascending."""
        check_box(box)
        return tuple(self._meeting(ends_of(box)))

    def box_of(self, name):
        """The box of an id."""
        check_used(self.boxes, name)
        return self.boxes[name]

    def _meeting(self, ends):
        return sorted([name for name, other in self.ends.items() if ends_meet(ends, other)])

    def _put(self, name, box):
        ends = ends_of(box)
        found = self._meeting(ends)
        for other in found:
            self.partners[other][name] = True
        self.partners[name] = {partner: True for partner in found}
        self.boxes[name] = box
        self.ends[name] = ends

    def _take(self, name):
        for other in list(self.partners[name]):
            del self.partners[other][name]
        del self.partners[name]
        del self.boxes[name]
        del self.ends[name]
