"""Vectors: tuples (x, y) of two fractions."""

from steadybodies.ratios import minus, plus, times


def add(a, b):
    """The sum of two vectors."""
    return (plus(a[0], b[0]), plus(a[1], b[1]))


def subtract(a, b):
    """The difference of two vectors."""
    return (minus(a[0], b[0]), minus(a[1], b[1]))


def scale(a, factor):
    """A vector times a fraction."""
    return (times(a[0], factor), times(a[1], factor))


def dot(a, b):
    """The sum of the products on both axes."""
    return plus(times(a[0], b[0]), times(a[1], b[1]))
