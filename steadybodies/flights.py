"""Free flights: where a body that nothing hinders is after many ticks, without going tick by tick."""

from steadybodies.errors import TickError
from steadybodies.ratios import common_denominator, minus
from steadybodies.vectors import add, scale

FLIGHT_LIMIT = 1000000


def flight(place, speed, pull, n):
    """The pair (place, speed) after n ticks."""
    if n < 0 or n > FLIGHT_LIMIT:
        raise TickError("the number of ticks is out of its range")
    gain = scale(pull, (n, 1))
    way = add(scale(speed, (n, 1)), scale(pull, (n * (n + 1) // 2, 1)))
    return (add(place, way), add(speed, gain))


def crossing_tick(place, speed, pull, line, most):
    """The least number of ticks, up to most, behind which the place is on the line or beyond it, or None."""
    if most < 1 or most > FLIGHT_LIMIT:
        raise TickError("the greatest number of ticks is out of its range")
    start, speed, pull = whole_numbers([minus(place, line), speed, pull])
    if start < 0:
        start, speed, pull = -start, -speed, -pull
    if start == 0:
        return 1
    # From here on the line is at 0, and the flight begins above it.
    last = last_fall(speed, pull, most)
    if height_after(start, speed, pull, last) > 0:
        return None
    return first_below(start, speed, pull, last)


def whole_numbers(items):
    """The fractions as integers, in a unit that they share."""
    common = common_denominator(items)
    return [number * (common // denominator) for number, denominator in items]


def height_after(start, speed, pull, n):
    """Two times the place after n ticks."""
    return 2 * start + 2 * n * speed + n * (n + 1) * pull


def last_fall(speed, pull, most):
    """The last tick, up to most, on which the line may be reached for the first time from above."""
    if pull <= 0:
        return most
    # A tick number n leads downwards as long as speed + n pull is below 0.
    return min(most, ticks_before_turn(-speed, pull))


def ticks_before_turn(speed, brake):
    """The number of ticks that still lead on, for a speed that a brake above 0 makes less by itself in each tick."""
    return max(0, (speed - 1) // brake)


def first_below(start, speed, pull, last):
    """The first number of ticks, up to last, behind which the place is at 0 or below; behind last it is."""
    low = 1
    high = last
    # Up to last, a flight that has come to 0 stays there or below, so the numbers can be halved.
    while low < high:
        middle = (low + high) // 2
        if height_after(start, speed, pull, middle) > 0:
            low = middle + 1
        else:
            high = middle
    return low


def highest_tick(speed, pull):
    """The least number of ticks behind which the place is the greatest, or None if it has no greatest one."""
    speed, pull = whole_numbers([speed, pull])
    if pull < 0:
        return ticks_before_turn(speed, -pull)
    if pull > 0 or speed > 0:
        return None
    return 0
