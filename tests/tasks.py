"""Tasks for the nearest point, and short ways to write them."""

from fractions import Fraction

from helpers import fr, number, random_fraction


def line(parts, bound):
    return (tuple((spot, fr(factor)) for spot, factor in parts), fr(bound))


def point(*entries):
    return tuple(fr(entry) for entry in entries)


def factors_of(a_line, count):
    factors = [Fraction(0)] * count
    for spot, factor in a_line[0]:
        factors[spot] = number(factor)
    return factors


def total(factors, place):
    return sum((factor * entry for factor, entry in zip(factors, place)), Fraction(0))


def scaled_line(a_line, factor):
    return line([(spot, number(own) * factor) for spot, own in a_line[0]], number(a_line[1]) * factor)


def random_parts(rng, count, most):
    spots = sorted(rng.sample(range(count), min(count, rng.randint(0, most))))
    return [(spot, rng.choice([-1, 1]) * Fraction(rng.randint(1, 3), rng.choice([1, 1, 2]))) for spot in spots]


def random_task(rng, count, line_count, most):
    """A small task, with lines that repeat, oppose or shift earlier ones; often no point is left."""
    weights = tuple(rng.choice([1, 2, 3, 6, 7]) for _ in range(count))
    wishes = point(*[random_fraction(rng, 4) for _ in range(count)])
    lines = []
    while len(lines) < line_count:
        if lines and rng.random() < 0.2:
            parts, bound = scaled_line(rng.choice(lines), rng.choice([1, -1, 2, Fraction(-1, 2)]))
            lines.append((parts, fr(number(bound) + rng.choice([0, 0, 1, -1]))))
        else:
            lines.append(line(random_parts(rng, count, most), random_fraction(rng, 3) - rng.choice([0, 1, 2])))
    return weights, wishes, tuple(lines)


def possible_task(rng, count, line_count, most):
    """A task with a point for which all lines hold, many of them tightly."""
    weights = tuple(rng.randint(1, 9) for _ in range(count))
    wishes = point(*[random_fraction(rng, 9) for _ in range(count)])
    place = [random_fraction(rng, 3) for _ in range(count)]
    lines = []
    for _ in range(line_count):
        parts = random_parts(rng, count, most)
        held = sum((factor * place[spot] for spot, factor in parts), Fraction(0))
        lines.append(line(parts, held - rng.choice([0, 0, 1, 2])))
    return weights, wishes, tuple(lines)
