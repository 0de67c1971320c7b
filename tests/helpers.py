"""Short ways to write fractions, vectors, boxes, bodies and states in tests."""

from fractions import Fraction


def fr(value):
    """The fraction of an integer, a Fraction or a text like "1/2"."""
    number = Fraction(value)
    return (number.numerator, number.denominator)


def vec(x, y):
    return (fr(x), fr(y))


def box(x, y, width, height):
    return (vec(x, y), vec(width, height))


def body(name, x, y, width=1, height=1, mass=1, grip=0, speed=(0, 0)):
    return (name, vec(x, y), vec(width, height), mass, fr(grip), vec(*speed))


def joint(one, other, axis, low, high):
    return (one, other, axis, fr(low), fr(high))


def state(bodies, joints=(), pull=(0, 0)):
    return (tuple(bodies), tuple(joints), vec(*pull))


def number(a):
    """A fraction of the program as a Fraction."""
    return Fraction(a[0], a[1])


def low_high(a_box, axis):
    """The ends of a box on an axis as Fractions."""
    low = number(a_box[0][axis])
    return low, low + number(a_box[1][axis])


def plain_gap(a, b, axis):
    """The gap of two boxes, word by word as the document has it."""
    low_a, high_a = low_high(a, axis)
    low_b, high_b = low_high(b, axis)
    return max(low_b - high_a, low_a - high_b)


def random_fraction(random, most, denominators=(1, 1, 2, 3)):
    return Fraction(random.randint(-most, most), random.choice(denominators))


def random_box(random, most=4):
    size = [abs(random_fraction(random, 3)) or Fraction(1) for _ in range(2)]
    return box(random_fraction(random, most), random_fraction(random, most), *size)


def random_state(random, count, tries=60):
    """A state with up to so many bodies on a coarse lattice, so that many of them touch."""
    bodies = []
    for _ in range(tries):
        if len(bodies) == count:
            break
        place = (Fraction(random.randint(-6, 6), 2), Fraction(random.randint(-6, 6), 2))
        size = (Fraction(random.randint(1, 4), 2), Fraction(random.randint(1, 4), 2))
        mass = random.choice([0, 1, 1, 2, 5])
        speed = (random_fraction(random, 2), random_fraction(random, 2)) if mass else (0, 0)
        new = body(3 * len(bodies), *place, *size, mass, random.choice([0, "1/2", 2]), speed)
        if all(max(plain_gap(new[1:3], old[1:3], axis) for axis in (0, 1)) >= 0 for old in bodies):
            bodies.append(new)
    return state(bodies, random_joints(random, bodies), (random_fraction(random, 1), random_fraction(random, 1)))


def random_joints(random, bodies):
    joints = []
    while len(bodies) > 1 and random.random() < 0.5:
        one, other = random.sample(bodies, 2)
        axis = random.randint(0, 1)
        way = number(other[1][axis]) - number(one[1][axis])
        joints.append(joint(one[0], other[0], axis, way - random.choice([0, 1]), way + random.choice([0, 1])))
    return joints


def random_pushes(random, a_state):
    return tuple(
        (a_body[0], vec(random_fraction(random, 3), random_fraction(random, 3)))
        for a_body in a_state[0]
        if a_body[3] > 0 and random.random() < 0.4
    )
