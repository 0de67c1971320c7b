"""Short ways to write fractions, vectors, boxes, bodies and states in tests, and what several tests share."""

import unittest
from fractions import Fraction

from steadybodies.errors import BodyError, JointError, OverlapError, PushError, TooLarge


def fr(value):
    """The fraction of an integer, a Fraction or a text like "1/2"."""
    number = Fraction(value)
    return (number.numerator, number.denominator)


def vec(x, y):
    return (fr(x), fr(y))


def box(x, y, width, height):
    return (vec(x, y), vec(width, height))


def body(name, x, y, width=1, height=1, mass=1, grip=0, speed=(0, 0)):
    return (name, vec(x, y), vec(width, height), mass, fr(grip), vec(*speed))


def joint(one, other, axis, low, high):
    return (one, other, axis, fr(low), fr(high))


def state(bodies, joints=(), pull=(0, 0)):
    return (tuple(bodies), tuple(joints), vec(*pull))


def push(name, x=0, y=0):
    return (name, vec(x, y))


def number(a):
    """A fraction of the program as a Fraction."""
    return Fraction(a[0], a[1])


def low_high(a_box, axis):
    """The ends of a box on an axis as Fractions."""
    low = number(a_box[0][axis])
    return low, low + number(a_box[1][axis])


def plain_gap(a, b, axis):
    """The gap of two boxes, word by word as the document has it."""
    low_a, high_a = low_high(a, axis)
    low_b, high_b = low_high(b, axis)
    return max(low_b - high_a, low_a - high_b)


def random_fraction(random, most, denominators=(1, 1, 2, 3)):
    return Fraction(random.randint(-most, most), random.choice(denominators))


def random_box(random, most=4):
    size = [abs(random_fraction(random, 3)) or Fraction(1) for _ in range(2)]
    return box(random_fraction(random, most), random_fraction(random, most), *size)


def random_state(random, count, tries=60):
    """A state with up to so many bodies on a coarse lattice, so that many of them touch."""
    bodies = []
    for _ in range(tries):
        if len(bodies) == count:
            break
        place = (Fraction(random.randint(-6, 6), 2), Fraction(random.randint(-6, 6), 2))
        size = (Fraction(random.randint(1, 4), 2), Fraction(random.randint(1, 4), 2))
        mass = random.choice([0, 1, 1, 2, 5])
        speed = (random_fraction(random, 2), random_fraction(random, 2)) if mass else (0, 0)
        new = body(3 * len(bodies), *place, *size, mass, random.choice([0, "1/2", 2]), speed)
        if all(max(plain_gap(new[1:3], old[1:3], axis) for axis in (0, 1)) >= 0 for old in bodies):
            bodies.append(new)
    return state(bodies, random_joints(random, bodies), (random_fraction(random, 1), random_fraction(random, 1)))


def random_joints(random, bodies):
    joints = []
    while len(bodies) > 1 and random.random() < 0.5:
        one, other = random.sample(bodies, 2)
        axis = random.randint(0, 1)
        way = number(other[1][axis]) - number(one[1][axis])
        joints.append(joint(one[0], other[0], axis, way - random.choice([0, 1]), way + random.choice([0, 1])))
    return joints


def random_pushes(random, a_state):
    return tuple(
        (a_body[0], vec(random_fraction(random, 3), random_fraction(random, 3)))
        for a_body in a_state[0]
        if a_body[3] > 0 and random.random() < 0.4
    )


def look(world):
    """All that a world shows."""
    return (world.state, world.pushes, world.ticks, world.journal, world.mark)


def plain_free(a_state, pushes):
    """The free speeds by name, word by word as the document has them."""
    free = {}
    for name, _, _, mass, _, speed in a_state[0]:
        gained = [number(speed[axis]) + number(a_state[2][axis]) for axis in (0, 1)] if mass else [0, 0]
        for pushed, vector in pushes:
            if pushed == name:
                gained = [gained[axis] + number(vector[axis]) / mass for axis in (0, 1)]
        free[name] = vec(*gained)
    return free


def plain_rows(a_state, pushes):
    """The rows of point 504 in another way: factors by body and axis, gathered in a dict."""
    bodies, joints, _ = a_state
    by_name = {a_body[0]: a_body for a_body in bodies}
    free = plain_free(a_state, pushes)
    rows = []

    def put(name, factors, bound):
        parts = [key + (fr(factor),) for key, factor in sorted(factors.items()) if by_name[key[0]][3] and factor]
        rows.append((name, tuple(parts), fr(bound)))

    def order(i, j, axis):
        low_i, low_j = low_high(by_name[i][1:3], axis)[0], low_high(by_name[j][1:3], axis)[0]
        return (i, j) if low_i < low_j else (j, i)

    for at, one in enumerate(bodies):
        for other in bodies[at + 1:]:
            i, j = one[0], other[0]
            gaps = [plain_gap(one[1:3], other[1:3], axis) for axis in (0, 1)]
            ends = {}
            for axis in (0, 1):
                if gaps[axis] >= 0:
                    b, f = order(i, j, axis)
                    ends[axis] = gaps[axis] + number(free[f][axis]) - number(free[b][axis])
            k = max(sorted(ends), key=ends.get)
            if not one[3] and not other[3]:
                continue
            b, f = order(i, j, k)
            m = min(number(one[4]), number(other[4]))
            gripping = m != 0 and gaps[k] == 0 and gaps[1 - k] <= 0
            for side, slope in enumerate([m, -m] if gripping else [Fraction(0)]):
                factors = {(f, k): 1, (b, k): -1, (f, 1 - k): slope, (b, 1 - k): -slope}
                put(("apart", i, j, side), factors, -gaps[k])
    for n, (one, other, axis, low, high) in enumerate(joints):
        if by_name[one][3] or by_name[other][3]:
            d = number(by_name[other][1][axis]) - number(by_name[one][1][axis])
            put(("joint", n, 0, 0), {(other, axis): 1, (one, axis): -1}, number(low) - d)
            put(("joint", n, 0, 1), {(one, axis): 1, (other, axis): -1}, d - number(high))
    return tuple(rows)


def plain_sum(parts, speed_of):
    """The sum of factor times speed over the parts of a row."""
    return sum((number(factor) * number(speed_of[name][axis]) for name, axis, factor in parts), Fraction(0))


class StateCase(unittest.TestCase):
    """Checks that hold for every function that takes a state, or a state and pushes."""

    WRONG_STATES = (
        (state([body(name, 2 * name, 0, mass=-1) for name in range(25)]), TooLarge),
        (state([body(0, 0, 0), body(1, 0, 0, mass=1001)], [joint(0, 0, 0, 0, 0)]), BodyError),
        (state([body(0, 0, 0), body(1, "1/2", 0)], [joint(0, 1, 0, 6, 7)]), OverlapError),
        (state([body(0, 0, 0), body(1, 5, 0)], [joint(0, 1, 0, 6, 7)]), JointError),
    )

    def check_state_errors(self, call):
        """The errors of the state, for a call with a state that may be wrong in more than its state."""
        for a_state, error in self.WRONG_STATES:
            with self.subTest(error), self.assertRaises(error):
                call(a_state)

    def check_push_errors(self, call):
        """The errors of the state, then of the pushes, for a call with both that may be wrong in more than these."""
        self.check_state_errors(lambda a_state: call(a_state, ()))
        self.check_state_errors(lambda a_state: call(a_state, (push(7), push(7))))
        a_state = state([body(0, 0, -1, mass=0), body(2, 0, 0), body(5, 3, 0)])
        for pushes in ((push(0),), (push(1),), (push(5), push(2)), (push(2), push(2)), (push(-1),), (push(2), push(9))):
            with self.subTest(pushes), self.assertRaises(PushError):
                call(a_state, pushes)

    def check_speeds(self, a_state, pushes, speeds, forces):
        """Point 701, which only the speeds of a tick can keep."""
        bodies = a_state[0]
        self.assertEqual(len(speeds), len(bodies))
        speed_of = {a_body[0]: speed for a_body, speed in zip(bodies, speeds)}
        rows = {name: (parts, number(bound)) for name, parts, bound in plain_rows(a_state, pushes)}
        for parts, bound in rows.values():
            self.assertGreaterEqual(plain_sum(parts, speed_of), bound)
        order = [list(rows).index(name) for name, _ in forces]
        self.assertEqual(order, sorted(set(order)))
        pushed = {(a_body[0], axis): Fraction(0) for a_body in bodies for axis in (0, 1)}
        for name, amount in forces:
            parts, bound = rows[name]
            self.assertEqual(amount, fr(number(amount)))
            self.assertGreater(number(amount), 0)
            self.assertEqual(plain_sum(parts, speed_of), bound)
            for a_body, axis, factor in parts:
                pushed[a_body, axis] += number(amount) * number(factor)
        free = plain_free(a_state, pushes)
        for name, _, _, mass, _, _ in bodies:
            self.assertEqual(speed_of[name], vec(*map(number, speed_of[name])))
            for axis in (0, 1):
                way = number(speed_of[name][axis]) - number(free[name][axis])
                self.assertEqual(mass * way, pushed[name, axis])
            if not mass:
                self.assertEqual(speed_of[name], vec(0, 0))
