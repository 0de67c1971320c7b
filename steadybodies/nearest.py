"""The nearest point for which lines hold, and the forces that keep it there."""

from steadybodies.errors import RowError, TooLarge
from steadybodies.groups import Group
from steadybodies.ratios import ZERO, common_denominator, compare, fraction, minus, over, plus, times

COORDINATE_LIMIT = 60
LINE_LIMIT = 1000


def nearest(weights, wishes, lines):
    """The pair (point, forces) of the nearest point for which all lines hold."""
    check_task(weights, wishes, lines)
    search = Search(weights, wishes, lines)
    line = search.worst_line()
    while line is not None:
        search.raise_line(line)
        line = search.worst_line()
    return (tuple(search.point), search.forces())


def check_task(weights, wishes, lines):
    """Raises TooLarge or RowError if the arguments of nearest are not as they should be."""
    if max(len(weights), len(wishes)) > COORDINATE_LIMIT or len(lines) > LINE_LIMIT:
        raise TooLarge("there are too many coordinates or lines")
    if len(weights) != len(wishes):
        raise RowError("there are not as many wishes as weights")
    if any(weight < 1 for weight in weights):
        raise RowError("a weight is below 1")
    for parts, _ in lines:
        check_parts(parts, len(weights))


def check_parts(parts, count):
    """Raises RowError if the parts of a line are not ascending ones of so many coordinates, with factors."""
    before = -1
    for spot, factor in parts:
        if spot <= before or spot >= count or factor == ZERO:
            raise RowError("a line has a wrong coordinate or a factor that is 0")
        before = spot


class Search:
    """The way to the nearest point: from the wishes on, line after line.

    At each time the point is the nearest one for which the lines of the groups hold, and amounts has a force
    of at least 0 for each of these lines. Each line that is raised makes the distance greater, and as no set of
    lines can come back at a greater distance, the search ends.
    """

    def __init__(self, weights, wishes, lines):
        self.point = list(wishes)
        self.scales = [scale_of(parts) for parts, _ in lines]
        self.factors = [whole_factors(parts, scale) for (parts, _), scale in zip(lines, self.scales)]
        self.edges = [(bound[0] * scale, bound[1]) for (_, bound), scale in zip(lines, self.scales)]
        self.weights = weights
        self.groups = []
        self.amounts = {}

    def worst_line(self):
        """The line that the point misses by most, or None if all lines hold."""
        common = common_denominator(self.point)
        point = [number * (common // denominator) for number, denominator in self.point]
        worst = None
        most = 0
        unit = 1
        for line, (edge, denominator) in enumerate(self.edges):
            total = sum([factor * point[spot] for spot, factor in self.factors[line].items()])
            miss = edge * common - total * denominator
            size = denominator * self.scales[line]
            if miss * unit > most * size:
                worst, most, unit = line, miss, size
        return worst

    def raise_line(self, line):
        """Moves the point and the forces until a line that does not hold is tight."""
        group = self._group_for(line)
        self.amounts[line] = ZERO
        while True:
            turns, stiffness = group.answer(line)
            step, blocking = self._first_block(group, turns)
            if stiffness > 0:
                full = over(self._miss(line), (stiffness, 1))
                if blocking is None or compare(full, step) <= 0:
                    self._advance(group, line, turns, full)
                    group.take(line, turns, stiffness)
                    return
            elif blocking is None:
                raise RowError("there is no point for which all lines hold")
            self._advance(group, line, turns, step)
            del self.amounts[group.lines[blocking]]
            group.drop(blocking)

    def forces(self):
        """The pairs (line, amount) of all forces above 0, ascending."""
        return tuple([
            (line, times(self.amounts[line], (self.scales[line], 1)))
            for line in sorted(self.amounts)
            if self.amounts[line] != ZERO
        ])

    def _group_for(self, line):
        joined = Group(self.weights, self.factors)
        others = []
        for group in self.groups:
            if group.shares(line):
                joined.absorb(group)
            else:
                others.append(group)
        joined.reach(line)
        self.groups = others + [joined]
        return joined

    def _miss(self, line):
        miss = fraction(self.edges[line][0], self.edges[line][1])
        for spot, factor in self.factors[line].items():
            miss = minus(miss, times(self.point[spot], (factor, 1)))
        return miss

    def _first_block(self, group, turns):
        """The least step at which an amount of the group falls to 0, and its index there, or None."""
        step = ZERO
        blocking = None
        for at, turn in enumerate(turns):
            if turn > 0:
                reach = over(self.amounts[group.lines[at]], (turn, 1))
                if blocking is None or compare(reach, step) < 0:
                    step, blocking = reach, at
        return (step, blocking)

    def _advance(self, group, line, turns, step):
        self.amounts[line] = plus(self.amounts[line], times(step, (group.whole, 1)))
        for other, turn in zip(group.lines, turns):
            self.amounts[other] = minus(self.amounts[other], times(step, (turn, 1)))
        for spot, way in group.ways(line, turns).items():
            if way != 0:
                self.point[spot] = plus(self.point[spot], times(step, (way, 1)))


def scale_of(parts):
    """The least number that makes all factors of a line integers."""
    return common_denominator([factor for _, factor in parts])


def whole_factors(parts, scale):
    """The factors of a line times its scale, by coordinate."""
    return {spot: factor[0] * (scale // factor[1]) for spot, factor in parts}
