"""Fractions: tuples (numerator, denominator) in lowest terms, the denominator being at least 1."""

from math import gcd, lcm

from steadybodies.errors import TextError, ZeroDenominator

ZERO = (0, 1)
ONE = (1, 1)
TEXT_LIMIT = 1000


def fraction(numerator, denominator):
    """The fraction of two integers."""
    if denominator == 0:
        raise ZeroDenominator("the denominator is 0")
    divisor = gcd(numerator, denominator)
    if denominator < 0:
        divisor = -divisor
    return (numerator // divisor, denominator // divisor)


def plus(a, b):
    """The sum of two fractions."""
    # Only the shared part of both denominators can be cancelled, so no divisor of long products is sought.
    shared = gcd(a[1], b[1])
    stretched = a[1] // shared
    numerator = a[0] * (b[1] // shared) + b[0] * stretched
    divisor = gcd(numerator, shared)
    return (numerator // divisor, stretched * (b[1] // divisor))


def minus(a, b):
    """The difference of two fractions."""
    return plus(a, (-b[0], b[1]))


def times(a, b):
    """The product of two fractions."""
    # Both are in lowest terms: only a numerator and the denominator of the other one can be cancelled.
    first = gcd(a[0], b[1])
    second = gcd(b[0], a[1])
    return ((a[0] // first) * (b[0] // second), (a[1] // second) * (b[1] // first))


def over(a, b):
    """The quotient of two fractions."""
    if b[0] == 0:
        raise ZeroDenominator("a fraction is divided by 0")
    if b[0] < 0:
        return times(a, (-b[1], -b[0]))
    return times(a, (b[1], b[0]))


def compare(a, b):
    """-1, 0 or 1, as a is less than, equal to or greater than b."""
    left = a[0] * b[1]
    right = b[0] * a[1]
    if left < right:
        return -1
    if left > right:
        return 1
    return 0


def least(items):
    """The least of at least one fraction."""
    best = items[0]
    for item in items:
        if compare(item, best) < 0:
            best = item
    return best


def greatest(items):
    """The greatest of at least one fraction."""
    best = items[0]
    for item in items:
        if compare(item, best) > 0:
            best = item
    return best


def common_denominator(items):
    """The least number that makes each fraction of a list an integer."""
    common = 1
    for _, denominator in items:
        common = lcm(common, denominator)
    return common


def ascending(items):
    """The fractions of a list, each once, ascending as numbers."""
    # Over a common denominator the fractions have the order of their numerators.
    common = common_denominator(items)
    found = {item[0] * (common // item[1]): item for item in items}
    return [found[key] for key in sorted(found)]


def decimal(number):
    """The decimal text of an integer of at least 0."""
    # Python refuses to write very long integers at once, so they are written in chunks.
    unit = 10 ** 64
    chunks = []
    while number >= unit:
        number, low = divmod(number, unit)
        chunks.append(str(low).zfill(64))
    chunks.append(str(number))
    return "".join(reversed(chunks))


def is_decimal(text):
    """Whether a text is the decimal text of an integer of at least 0."""
    if text == "" or (text[0] == "0" and text != "0"):
        return False
    return all(figure in "0123456789" for figure in text)


def write_fraction(a):
    """The text of a fraction."""
    text = decimal(abs(a[0]))
    if a[0] < 0:
        text = "-" + text
    if a[1] != 1:
        text = text + "/" + decimal(a[1])
    return text


def read_fraction(text):
    """The fraction with this text."""
    if len(text) > TEXT_LIMIT:
        raise TextError("the text of a fraction is too long")
    top, stroke, bottom = text.partition("/")
    if stroke == "":
        bottom = "1"
    if not is_decimal(top.removeprefix("-")) or not is_decimal(bottom) or bottom == "0":
        raise TextError("not the text of a fraction")
    value = fraction(int(top), int(bottom))
    # Each fraction has one text only: -0, a denominator of 1 and what is not in lowest terms drop out here.
    if write_fraction(value) != text:
        raise TextError("not the text of a fraction in lowest terms")
    return value
