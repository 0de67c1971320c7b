"""Fair forces: of all forces that make the speeds of a tick, those with the least sum of squares."""

from steadybodies.errors import TooLarge
from steadybodies.ledger import sums_by_body
from steadybodies.nearest import nearest
from steadybodies.ratios import ONE, ZERO, minus, times
from steadybodies.rows import check_pushes, items_of
from steadybodies.settling import settle, tight_rows

ROW_LIMIT = 60


def fair_forces(state, pushes):
    """The fair forces: pairs (name of a row, amount) in the order of the rows, each amount above 0."""
    check_pushes(state, pushes)
    speeds, _ = settle(state, pushes)
    rows = tight_rows(state, pushes, speeds)
    if len(rows) > ROW_LIMIT:
        raise TooLarge("too many rows are tight")
    # The amounts of the tight rows are the coordinates of a point that is to be as near to 0 as can be.
    lines = lines_of_signs(len(rows)) + lines_of_needs(rows, needs_of(state, pushes, speeds))
    amounts, _ = nearest((1,) * len(rows), (ZERO,) * len(rows), tuple(lines))
    return tuple([(row[0], amount) for row, amount in zip(rows, amounts) if amount != ZERO])


def loads(state, pushes):
    """For each body in order the pair (name, vector) of the sum of the fair forces on it."""
    forces = fair_forces(state, pushes)
    return tuple(sums_by_body(state, pushes, forces).items())


def needs_of(state, pushes, speeds):
    """What the forces on each moving body have to add up to on each axis, by (name, axis)."""
    needs = {}
    for (body, _, free), speed in zip(items_of(state, pushes), speeds):
        for axis in (0, 1):
            needs[(body[0], axis)] = times((body[3], 1), minus(speed[axis], free[axis]))
    return needs


def lines_of_signs(count):
    """The lines that keep so many amounts at 0 or above."""
    return [(((at, ONE),), ZERO) for at in range(count)]


def lines_of_needs(rows, needs):
    """For each need that rows have a part in, two lines that together keep what the amounts add up to at it."""
    terms = {}
    for at, (_, parts, _) in enumerate(rows):
        for name, axis, factor in parts:
            terms.setdefault((name, axis), []).append((at, factor))
    lines = []
    for spot, own in terms.items():
        opposite = [(at, minus(ZERO, factor)) for at, factor in own]
        lines.append((tuple(own), needs[spot]))
        lines.append((tuple(opposite), minus(ZERO, needs[spot])))
    return lines
