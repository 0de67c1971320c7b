"""Groups of lines that are held tight together, in integers over one denominator.

For two lines with the integer factors F and G, their *product* is the sum of F G / weight over all coordinates.
A group keeps the inverse of the matrix of the products of its lines as integers over its whole.
The whole is the determinant of this matrix times the weights of all coordinates that the group has reached.
With these weights in it, the inverse, the turns and all that follows are determinants of a matrix of integers
(the weights on its diagonal, the factors beside them), so every division in this file leaves nothing.
"""

from math import lcm


class Group:
    """Lines that are held tight, with all that they share coordinates with."""

    def __init__(self, weights, factors):
        """weights has one integer for each coordinate, factors a dict {coordinate: integer} for each line."""
        self.weights = weights
        self.factors = factors
        self.lines = []
        self.inverse = []
        self.whole = 1
        self.reached = {}

    def shares(self, line):
        """Whether a line has a coordinate that the group has reached."""
        return any(spot in self.reached for spot in self.factors[line])

    def absorb(self, other):
        """Takes the lines of a group that has reached other coordinates only."""
        mine = [[entry * other.whole for entry in row] + [0] * len(other.lines) for row in self.inverse]
        before = [0] * len(self.lines)
        theirs = [before + [entry * self.whole for entry in row] for row in other.inverse]
        self.inverse = mine + theirs
        self.whole = self.whole * other.whole
        self.lines = self.lines + other.lines
        self.reached = {**self.reached, **other.reached}

    def reach(self, line):
        """Reaches all coordinates of a line."""
        growth = 1
        for spot in self.factors[line]:
            if spot not in self.reached:
                self.reached[spot] = True
                growth = growth * self.weights[spot]
        self.whole = self.whole * growth
        self.inverse = [[entry * growth for entry in row] for row in self.inverse]

    def answer(self, line):
        """How the group answers to a force on a line that it has reached: a pair (turns, stiffness).

        While the amount of the line grows by the whole, the amount of each line of the group falls by its turn
        if they all stay tight, and the slack of the line grows by the stiffness.
        """
        own = self.factors[line]
        common = 1
        for spot in own:
            common = lcm(common, self.weights[spot])
        parts = {spot: own[spot] * (common // self.weights[spot]) for spot in own}
        products = [self._sum_of(other, parts) for other in self.lines]
        turns = [
            sum([entry * along for entry, along in zip(row, products)]) // common
            for row in self.inverse
        ]
        stiffness = self.whole * self._sum_of(line, parts)
        for turn, product in zip(turns, products):
            stiffness = stiffness - turn * product
        return (turns, stiffness // common)

    def _sum_of(self, line, parts):
        factors = self.factors[line]
        return sum([factor * parts[spot] for spot, factor in factors.items() if spot in parts])

    def ways(self, line, turns):
        """How far each reached coordinate moves while the amount of the line grows by the whole."""
        ways = {spot: 0 for spot in self.reached}
        for spot, factor in self.factors[line].items():
            ways[spot] += factor * self.whole
        for other, turn in zip(self.lines, turns):
            for spot, factor in self.factors[other].items():
                ways[spot] -= factor * turn
        return {spot: way // self.weights[spot] for spot, way in ways.items()}

    def take(self, line, turns, stiffness):
        """Takes a line, by the answer to it."""
        rows = []
        for row, turn in zip(self.inverse, turns):
            grown = [(entry * stiffness + turn * other) // self.whole for entry, other in zip(row, turns)]
            rows.append(grown + [-turn])
        rows.append([-turn for turn in turns] + [self.whole])
        self.inverse = rows
        self.lines = self.lines + [line]
        self.whole = stiffness

    def drop(self, at):
        """Lets go of the line with this index in the group."""
        base = self.inverse[at]
        pivot = base[at]
        rows = []
        for row in self.inverse[:at] + self.inverse[at + 1:]:
            factor = row[at]
            kept = [(entry * pivot - factor * other) // self.whole for entry, other in zip(row, base)]
            rows.append(kept[:at] + kept[at + 1:])
        self.inverse = rows
        self.lines = self.lines[:at] + self.lines[at + 1:]
        self.whole = pivot
