"""Point 1301, and with it 301 and 302: trees of boxes."""

import random
import unittest
from fractions import Fraction

from helpers import box, fr, low_high, number, random_box, random_fraction, vec
from steadybodies.broad import Broad
from steadybodies.errors import BoxError, IdError
from steadybodies.rays import ray_time
from steadybodies.trees import Tree

FLAT = [box(0, 0, 0, 1), box(0, 0, 1, 0), box(0, 0, -1, 1), box(0, 0, 1, "-1/2")]


def tree_of(boxes):
    tree = Tree()
    for name, a_box in boxes.items():
        tree.add(name, a_box)
    return tree


def plain_hit(boxes, origin, path):
    """The least time, of several the least name, by a look at each box."""
    found = [(number(moment), name) for name in boxes if (moment := ray_time(boxes[name], origin, path)) is not None]
    if not found:
        return None
    moment, name = min(found)
    return (name, fr(moment))


def plain_closest(boxes, point):
    """The least square of the distance, of several the least name, by a look at each box."""
    found = []
    for name, a_box in boxes.items():
        square = Fraction(0)
        for axis in (0, 1):
            low, high = low_high(a_box, axis)
            nearest = min(max(number(point[axis]), low), high)
            square += (number(point[axis]) - nearest) ** 2
        found.append((square, name))
    if not found:
        return None
    square, name = min(found)
    return (name, fr(square))


class TreeCase(unittest.TestCase):
    def check(self, tree, broad, boxes):
        """Names, boxes and what is near, beside a Broad with the same deeds."""
        self.assertEqual(tree.names, tuple(sorted(boxes)))
        self.assertEqual(tree.names, broad.names)
        for name in boxes:
            self.assertEqual(tree.box_of(name), boxes[name])
            self.assertEqual(tree.near(boxes[name]), broad.near(boxes[name]))
        self.assertLessEqual(tree.depth(), 64)
        if boxes:
            self.assertGreaterEqual(tree.depth(), 1)


class BesideABroadTest(TreeCase):
    THREE = {7: box(0, 0, 2, 2), 0: box(2, 1, 1, 1), 3: box(5, 5, 1, 1)}

    def test_empty(self):
        self.check(Tree(), Broad(), {})
        self.assertEqual(Tree().near(box(0, 0, 9, 9)), ())
        self.assertEqual(Tree().depth(), 0)

    def test_near_at_edges_and_corners(self):
        tree = tree_of(self.THREE)
        self.assertEqual(tree.near(box(-1, 0, 1, 1)), (7,))
        self.assertEqual(tree.near(box(6, 6, 1, 1)), (3,))
        self.assertEqual(tree.near(box(2, 2, 1, 1)), (0, 7))
        self.assertEqual(tree.near(box(2, 2, 3, 3)), (0, 3, 7))
        self.assertEqual(tree.near(box("5/2", "5/2", 1, 1)), ())

    def test_move_and_remove(self):
        tree = tree_of(self.THREE)
        tree.move(3, box(0, 0, 2, 2))
        self.assertEqual(tree.near(box(0, 0, 1, 1)), (3, 7))
        self.assertEqual(tree.near(box(5, 5, 1, 1)), ())
        tree.remove(7)
        self.assertEqual(tree.near(box(0, 0, 1, 1)), (3,))
        self.assertEqual(tree.names, (0, 3))
        tree.remove(3)
        tree.remove(0)
        self.check(tree, Broad(), {})
        tree.add(7, box(9, 9, 1, 1))
        self.assertEqual((tree.names, tree.near(box(10, 10, 1, 1))), ((7,), (7,)))

    def test_equal_boxes_are_told_apart_by_their_names(self):
        tree = tree_of({name: box(0, 0, 1, 1) for name in range(9)})
        for name in (4, 0, 8):
            tree.remove(name)
        tree.move(5, box(3, 3, 1, 1))
        self.assertEqual(tree.near(box(1, 1, 1, 1)), (1, 2, 3, 6, 7))
        self.assertEqual(tree.near(box(4, 4, 1, 1)), (5,))

    def test_two_do_not_share_their_boxes(self):
        one, other = tree_of(self.THREE), Tree()
        other.add(0, box(0, 0, 1, 1))
        self.assertEqual((one.names, other.names), ((0, 3, 7), (0,)))
        self.assertEqual(one.box_of(0), self.THREE[0])

    def test_many(self):
        rng = random.Random(131)
        tree, broad, boxes = Tree(), Broad(), {}
        for step in range(500):
            name = rng.randint(0, 59)
            new = random_box(rng, 9)
            wrong = rng.choice(FLAT)
            if name not in boxes:
                deeds = (
                    (IdError, "move", (name, wrong)), (IdError, "remove", (name,)), (BoxError, "add", (name, wrong)),
                )
                good = ("add", (name, new))
                boxes[name] = new
            elif rng.random() < 0.3:
                deeds = ((IdError, "add", (name, wrong)), (BoxError, "move", (name, wrong)))
                good = ("remove", (name,))
                del boxes[name]
            else:
                deeds = ((IdError, "add", (name, new)), (BoxError, "near", (wrong,)))
                good = ("move", (name, new))
                boxes[name] = new
            for either in (tree, broad):
                for error, deed, arguments in deeds:
                    with self.assertRaises(error):
                        getattr(either, deed)(*arguments)
                getattr(either, good[0])(*good[1])
            if step % 5 == 0:
                self.check(tree, broad, boxes)

    def check_fault(self, error, deed):
        tree, broad = tree_of(self.THREE), Broad()
        for name, a_box in self.THREE.items():
            broad.add(name, a_box)
        with self.assertRaises(error):
            deed(tree)
        self.check(tree, broad, self.THREE)

    def test_wrong_names(self):
        for a_box in [box(0, 0, 9, 9), *FLAT]:
            for wrong in (-1, -7, 0, 3, 7):
                self.check_fault(IdError, lambda tree: tree.add(wrong, a_box))
            for unknown in (-1, 1, 2, 8):
                self.check_fault(IdError, lambda tree: tree.move(unknown, a_box))
        for unknown in (-1, 1, 2, 8):
            self.check_fault(IdError, lambda tree: tree.remove(unknown))
            self.check_fault(IdError, lambda tree: tree.box_of(unknown))

    def test_wrong_boxes(self):
        for flat in FLAT:
            self.check_fault(BoxError, lambda tree: tree.add(1, flat))
            self.check_fault(BoxError, lambda tree: tree.move(7, flat))
            self.check_fault(BoxError, lambda tree: tree.near(flat))
            with self.assertRaises(BoxError):
                Tree().near(flat)


class HitTest(unittest.TestCase):
    BOXES = {1: box(4, 0, 1, 1), 3: box(2, 0, 1, 1), 5: box(2, 3, 1, 1), 7: box(-3, 0, 1, 1)}

    def check(self, origin, path, expected, boxes=BOXES):
        if expected is not None:
            expected = (expected[0], fr(expected[1]))
        self.assertEqual(tree_of(boxes).hit(vec(*origin), vec(*path)), expected)

    def test_none(self):
        self.check((0, 0), (1, 1), None, {})
        self.check((0, "1/2"), (0, 0), None)
        self.check((0, "1/2"), ("19/10", 0), None)
        self.check((0, 2), (9, 0), None)

    def test_the_first_of_several(self):
        self.check((0, "1/2"), (8, 0), (3, "1/4"))
        self.check((8, "1/2"), (-12, 0), (1, "1/4"))
        self.check((0, "7/2"), (4, 0), (5, "1/2"))
        self.check((0, "1/2"), (2, 0), (3, 1))

    def test_the_least_name_at_the_same_time(self):
        for names in ((2, 4, 9), (9, 4, 2), (4, 2, 9)):
            boxes = dict(zip(names, (box(2, 0, 1, 1), box(2, 1, 1, 1), box(2, 0, 3, 3))))
            self.check((0, 1), (4, 0), (2, "1/2"), boxes)

    def test_a_ray_that_begins_inside_or_touches(self):
        self.check(("5/2", "1/2"), (9, 0), (3, 0))
        self.check(("5/2", "1/2"), (0, 0), (3, 0))
        self.check((3, 1), (1, 1), (3, 0))
        self.check((0, 1), (8, 0), (3, "1/4"))

    def test_many(self):
        rng = random.Random(132)
        outcomes = []
        for _ in range(40):
            boxes = {name: random_box(rng, 9) for name in rng.sample(range(99), rng.randint(0, 25))}
            tree = tree_of(boxes)
            for _ in range(8):
                origin, path = [vec(random_fraction(rng, 9), random_fraction(rng, 9)) for _ in range(2)]
                expected = plain_hit(boxes, origin, path)
                self.assertEqual(tree.hit(origin, path), expected)
                outcomes.append(expected)
        self.assertTrue(None in outcomes and any(found and found[1] != (0, 1) for found in outcomes))


class ClosestTest(unittest.TestCase):
    BOXES = {1: box(4, 0, 1, 1), 3: box(2, 0, 1, 1), 5: box(2, 3, 1, 1)}

    def check(self, point, expected, boxes=BOXES):
        if expected is not None:
            expected = (expected[0], fr(expected[1]))
        self.assertEqual(tree_of(boxes).closest(vec(*point)), expected)

    def test_none(self):
        self.check((0, 0), None, {})

    def test_beside_a_side_and_a_corner(self):
        self.check((0, "1/2"), (3, 4))
        self.check(("1/2", -2), (3, "25/4"))
        self.check(("5/2", 6), (5, 4))
        self.check((7, 4), (1, 13))
        self.check((-2, 4), (5, 16))
        self.check((6, 2), (1, 2))

    def test_inside_and_on_the_border(self):
        for point in (("5/2", "1/2"), (2, "1/3"), (3, 1), ("5/2", 0)):
            self.check(point, (3, 0))

    def test_the_least_name_at_the_same_distance(self):
        self.check(("7/2", "1/2"), (1, "1/4"))
        self.check(("5/2", 2), (3, 1))
        for names in ((2, 4), (4, 2)):
            self.check((3, 1), (2, 0), dict(zip(names, (box(2, 0, 1, 1), box(3, 1, 1, 1)))))
        self.check((9, 9), (0, 128), {name: box(0, 0, 1, 1) for name in (6, 0, 3)})

    def test_many(self):
        rng = random.Random(133)
        for _ in range(40):
            boxes = {name: random_box(rng, 9) for name in rng.sample(range(99), rng.randint(0, 25))}
            tree = tree_of(boxes)
            for _ in range(8):
                point = vec(random_fraction(rng, 14), random_fraction(rng, 14))
                self.assertEqual(tree.closest(point), plain_closest(boxes, point))


class DepthTest(TreeCase):
    def check_depth(self, boxes):
        tree = Tree()
        for name, a_box in enumerate(boxes):
            tree.add(name, a_box)
            self.assertTrue(1 <= tree.depth() <= 64)
        # A tree in which each hull is one of two boxes is not flatter, and as a balanced one it is not deeper.
        self.assertTrue(7 <= tree.depth() <= 9)
        for name in range(len(boxes) - 1):
            tree.remove(name)
            self.assertTrue(1 <= tree.depth() <= 9)
        self.assertEqual(tree.depth(), 1)

    def test_one_box_is_its_own_way(self):
        self.assertEqual(tree_of({4: box(0, 0, 1, 1)}).depth(), 1)

    def test_few_boxes(self):
        tree = Tree()
        for name in (1, 2, 3):
            tree.add(name, box(name, 0, 1, 1))
            self.assertEqual(tree.depth(), name)

    def test_equal_boxes(self):
        self.check_depth([box(0, 0, 1, 1)] * 60)

    def test_ascending_and_descending(self):
        rising = [box(k, 0, 1, 1) for k in range(60)]
        self.check_depth(rising)
        self.check_depth(rising[::-1])
        self.check_depth([box(k, k, 1, 1) for k in range(60)])
        self.check_depth([box(0, 0, k + 1, 1) for k in range(60)])
        self.check_depth([box(2 ** k, 0, 1, 1) for k in range(60)])

    def test_any_boxes(self):
        rng = random.Random(134)
        self.check_depth([random_box(rng, 20) for _ in range(60)])
