"""Points 1701 to 1703: compound bodies."""

import random

from helpers import StateCase, body, box, fr, joint, push, random_box, random_fraction, state, vec
from steadybodies.compounds import compound, outline, with_compound
from steadybodies.errors import BodyError, BoxError, IdError, OverlapError, TooLarge
from steadybodies.states import check_state
from steadybodies.ticks import tick
from steadybodies.unions import pieces

HERE = box(0, 0, 1, 1)
ELL = (box(0, 0, 1, 3), box(0, 0, 3, 1))
COMB = tuple(box(2 * k, 0, 1, 1) for k in range(13))
NO_SPEED = vec(0, 0)


def made(first=3, boxes=ELL, mass=2, grip="1/2", speed=(1, "-1/3")):
    return compound(first, tuple(boxes), mass, fr(grip), vec(*speed))


def plain_bodies(first, boxes, mass=2, grip="1/2", speed=(1, "-1/3")):
    return tuple((first + k, *a_box, mass, fr(grip), vec(*speed)) for k, a_box in enumerate(boxes))


class CompoundTest(StateCase):
    def test_one_box(self):
        self.assertEqual(made(boxes=[HERE]), (plain_bodies(3, [HERE]), ()))
        self.assertEqual(made(0, [HERE, HERE], 1, 0, (0, 0)), (plain_bodies(0, [HERE], 1, 0, (0, 0)), ()))

    def test_two_boxes_that_touch(self):
        boxes = (box(5, 2, 1, 2), box(6, "5/2", 2, 1))
        joints = (joint(3, 4, 0, 1, 1), joint(3, 4, 1, "1/2", "1/2"))
        self.assertEqual(made(3, boxes), (plain_bodies(3, boxes), joints))
        self.assertEqual(made(3, boxes[::-1]), made(3, boxes))

    def test_boxes_on_each_other_are_one_piece(self):
        self.assertEqual(made(boxes=[HERE, box(0, 1, 1, 1)]), (plain_bodies(3, [box(0, 0, 1, 2)]), ()))

    def test_two_boxes_that_overlap(self):
        parts = [box(0, 0, 1, 2), box(1, 0, 1, 3), box(2, 1, 1, 2)]
        joints = (joint(7, 8, 0, 1, 1), joint(7, 8, 1, 0, 0), joint(7, 9, 0, 2, 2), joint(7, 9, 1, 1, 1))
        self.assertEqual(made(7, [box(1, 1, 2, 2), box(0, 0, 2, 2)]), (plain_bodies(7, parts), joints))

    def test_boxes_apart_are_held_together_too(self):
        bodies, joints = made(0, [box(0, 5, 1, 1), box(0, 0, 1, 1)])
        self.assertEqual(bodies, plain_bodies(0, [box(0, 0, 1, 1), box(0, 5, 1, 1)]))
        self.assertEqual(joints, (joint(0, 1, 0, 0, 0), joint(0, 1, 1, 5, 5)))

    def test_12_and_13_pieces(self):
        bodies, joints = made(100, COMB[:12])
        self.assertEqual(bodies, plain_bodies(100, COMB[:12]))
        expected = [(100, 100 + k, axis) for k in range(1, 12) for axis in (0, 1)]
        self.assertEqual([a_joint[:3] for a_joint in joints], expected)
        with self.assertRaises(TooLarge):
            made(100, COMB)

    def test_60_boxes_with_few_pieces(self):
        self.assertEqual(made(boxes=[HERE] * 60), made(boxes=[HERE]))

    def test_bounds_that_are_just_kept(self):
        for mass in (1, 1000):
            for grip in (0, 4):
                for first in (0, 999999997):
                    bodies, joints = made(first, ELL, mass, grip)
                    self.assertIsNone(check_state((bodies, joints, NO_SPEED)))
                    self.assertEqual([a_body[0] for a_body in bodies], [first, first + 1])

    def test_many(self):
        rng = random.Random(171)
        for _ in range(40):
            boxes = tuple(random_box(rng, 3) for _ in range(rng.randint(1, 3)))
            parts = pieces(boxes)
            bodies, joints = made(5, boxes)
            self.assertEqual(bodies, plain_bodies(5, parts))
            self.assertEqual(len(joints), 2 * len(parts) - 2)
            self.assertIsNone(check_state((bodies, joints, NO_SPEED)))


class CompoundErrorsTest(StateCase):
    FLAT = box(0, 0, 0, 1)

    def check(self, error, *given):
        with self.assertRaises(error):
            made(*given)

    def test_each_error(self):
        self.check(TooLarge, 0, [HERE] * 61)
        for flat in (self.FLAT, box(0, 0, 1, 0), box(0, 0, 1, -1)):
            self.check(BoxError, 0, [HERE, flat])
        self.check(IdError, 0, [])
        self.check(IdError, -1, [HERE])
        self.check(TooLarge, 0, COMB)
        for mass in (0, -1, 1001):
            self.check(BodyError, 0, ELL, mass)
        for grip in ("-1/9", "37/9", 5):
            self.check(BodyError, 0, ELL, 1, grip)
        self.check(BodyError, 999999999, ELL)
        self.check(BodyError, 1000000000, [HERE])
        self.assertEqual(made(999999999, [HERE])[0][0][0], 999999999)

    def test_their_order(self):
        self.check(TooLarge, -1, [self.FLAT] * 61, 0, 9)
        self.check(BoxError, -1, [self.FLAT], 0, 9)
        self.check(BoxError, -1, [*COMB, self.FLAT], 0, 9)
        self.check(IdError, -1, COMB, 0, 9)
        self.check(IdError, 1, [], 0, 9)
        self.check(TooLarge, 999999999, COMB, 0, 9)
        self.check(BodyError, 999999999, COMB[:12], 0, 9)


class WithCompoundTest(StateCase):
    STATE = state([body(1, 9, 9), body(6, 20, 0, mass=0)], [joint(1, 6, 0, 9, 12)], (0, -1))

    def put(self, a_state, first=3, boxes=ELL, mass=2, grip="1/2", speed=(1, 0)):
        return with_compound(a_state, first, tuple(boxes), mass, fr(grip), vec(*speed))

    def test_in_an_empty_state(self):
        bodies, joints = compound(3, ELL, 2, fr("1/2"), vec(1, 0))
        self.assertEqual(self.put(state([], pull=(0, "1/2"))), (bodies, joints, vec(0, "1/2")))

    def test_beside_other_bodies(self):
        for first, boxes in ((0, [HERE]), (2, ELL), (3, ELL), (4, ELL), (7, ELL)):
            bodies, joints = compound(first, tuple(boxes), 2, fr("1/2"), vec(1, 0))
            found = self.put(self.STATE, first, boxes)
            self.assertEqual(found[0], tuple(sorted(self.STATE[0] + bodies)))
            self.assertEqual(found[1:], (self.STATE[1] + joints, self.STATE[2]))

    def test_a_name_in_use(self):
        for first in (0, 1, 5, 6):
            with self.assertRaises(BodyError):
                self.put(self.STATE, first)

    def test_an_overlap(self):
        for boxes in ([HERE, box("19/2", "19/2", 1, 1)], [box(19, 0, 9, 1)]):
            with self.assertRaises(OverlapError):
                self.put(self.STATE, 3, boxes)
        self.assertEqual(len(self.put(self.STATE, 3, [box(8, 9, 1, 1)])[0]), 3)

    def test_too_many_bodies_or_joints(self):
        full = state([body(name, 2 * name, -9) for name in range(22)])
        self.assertEqual(len(self.put(full, 50)[0]), 24)
        with self.assertRaises(TooLarge):
            self.put(state([body(name, 2 * name, -9) for name in range(23)]), 50)
        jointed = state([body(1, 9, 9), body(6, 20, 0)], [joint(1, 6, 0, 9, 12)] * 23)
        with self.assertRaises(TooLarge):
            self.put(jointed)
        self.assertEqual(len(self.put((jointed[0], jointed[1][:22], jointed[2]))[1]), 24)

    def test_errors_of_the_compound_come_before_those_of_the_result(self):
        for error, given in (
            (TooLarge, (1, [HERE] * 61)), (BoxError, (1, [HERE, box(0, 0, 0, 1)])),
            (IdError, (-1, ELL)), (IdError, (1, [])),
            (BodyError, (3, [box(9, 9, 1, 1)], 0)), (BodyError, (3, [box(9, 9, 1, 1)], 1, 5)),
        ):
            with self.assertRaises(error):
                self.put(self.STATE, *given)

    def test_errors_of_the_state_come_first(self):
        for first, boxes in ((-1, [box(0, 0, 0, 1)] * 61), (3, [box(0, 0, 0, 1)]), (3, []), (1, ELL)):
            self.check_state_errors(lambda a_state: self.put(a_state, first, boxes))


class OutlineTest(StateCase):
    STATE = state([body(1, 0, 0, 2, 2), body(4, 2, 1), body(5, 9, 9, mass=0), body(8, 0, 2, 2, 1)])

    def check(self, names, *boxes):
        self.assertEqual(outline(self.STATE, names), tuple(boxes))

    def test_none(self):
        self.check(())
        self.assertEqual(outline(state([]), ()), ())

    def test_some(self):
        self.check((5,), box(9, 9, 1, 1))
        self.check((1, 4), box(0, 0, 2, 2), box(2, 1, 1, 1))
        self.check((1, 8), box(0, 0, 2, 3))
        self.check((1, 4, 5, 8), box(0, 0, 2, 3), box(2, 1, 1, 1), box(9, 9, 1, 1))

    def test_names_in_any_order_and_twice(self):
        self.check((8, 1), box(0, 0, 2, 3))
        self.check((8, 1, 1, 8) * 20, box(0, 0, 2, 3))

    def test_an_unknown_name(self):
        for names in ((0,), (1, 2), (9, 1), (-1,), (1, 4, 5, 8, 9)):
            with self.assertRaises(IdError):
                outline(self.STATE, names)
        with self.assertRaises(IdError):
            outline(state([]), (0,))

    def test_of_a_compound(self):
        boxes = (box(0, 0, 2, 2), box(1, 1, 2, 2), box(7, 0, 1, 1))
        a_state = with_compound(state([]), 0, boxes, 1, fr(0), NO_SPEED)
        self.assertEqual(outline(a_state, tuple(a_body[0] for a_body in a_state[0])), pieces(boxes))

    def test_errors_of_the_state_come_first(self):
        self.check_state_errors(lambda a_state: outline(a_state, (99,)))


class TogetherTest(StateCase):
    def check(self, a_state, names, pushes, steps):
        """The state behind some ticks, in each of which the bodies of these names have the same speed."""
        sizes = [a_box[1] for a_box in outline(a_state, names)]
        for _ in range(steps):
            a_state, _ = tick(a_state, pushes)
            own = [a_body for a_body in a_state[0] if a_body[0] in names]
            self.assertEqual(len({a_body[5] for a_body in own}), 1)
            self.assertEqual([a_box[1] for a_box in outline(a_state, names)], sizes)
        return a_state

    def test_they_fly_together(self):
        a_state = with_compound(state([], pull=(0, "-1/2")), 2, ELL, 3, fr(0), vec(1, 0))
        later = self.check(a_state, (2, 3), (), 2)
        self.assertEqual(later[0][0][1:3], box(2, "-3/2", 1, 3))
        self.assertEqual(later[0][1][1:3], box(3, "-3/2", 2, 1))

    def test_pushed_at_one_piece(self):
        a_state = with_compound(state([]), 2, ELL, 3, fr(0), vec(0, 0))
        for name in (2, 3):
            later = self.check(a_state, (2, 3), (push(name, 6, -3),), 1)
            self.assertEqual([a_body[5] for a_body in later[0]], [vec(1, "-1/2")] * 2)

    def test_among_other_bodies(self):
        rng = random.Random(172)
        for _ in range(15):
            others = [body(0, -20, -2, 40, 1, 0, "1/2"), body(1, 0, -1, 1, 1, 5, "1/2"), body(20, 2, 5, 2, 1, 2, 1)]
            a_state = with_compound(state(others, pull=(0, "-1/3")), 2, ELL, rng.randint(1, 9), fr(1), vec(1, -1))
            pushes = (push(3, random_fraction(rng, 9), random_fraction(rng, 9)),)
            self.check(a_state, (2, 3), pushes, 3)
