"""Points 301 and 302: the broad phase."""

import random
import unittest

from helpers import box, plain_gap, random_box
from steadybodies.broad import Broad
from steadybodies.errors import BoxError, IdError

FLAT = [box(0, 0, 0, 1), box(0, 0, 1, 0), box(0, 0, -1, 1), box(0, 0, 1, "-1/2")]


def plain_meet(a, b):
    return all(plain_gap(a, b, axis) <= 0 for axis in (0, 1))


def three():
    broad = Broad()
    broad.add(7, box(0, 0, 2, 2))
    broad.add(0, box(2, 1, 1, 1))
    broad.add(3, box(5, 5, 1, 1))
    return broad


class BroadTest(unittest.TestCase):
    def check(self, broad, boxes):
        """Everything that is asked, against a plain look at all pairs."""
        names = sorted(boxes)
        self.assertEqual(broad.names, tuple(names))
        pairs = tuple(
            (one, other) for one in names for other in names
            if one < other and plain_meet(boxes[one], boxes[other])
        )
        self.assertEqual(broad.pairs(), pairs)
        for name in names:
            self.assertEqual(broad.box_of(name), boxes[name])
            near = tuple(other for other in names if plain_meet(boxes[name], boxes[other]))
            self.assertEqual(broad.near(boxes[name]), near)

    def test_empty(self):
        self.check(Broad(), {})
        self.assertEqual(Broad().near(box(0, 0, 9, 9)), ())

    def test_ids_and_pairs_ascend(self):
        broad = three()
        self.assertEqual(broad.names, (0, 3, 7))
        self.assertEqual(broad.pairs(), ((0, 7),))
        broad.add(1, box(0, 0, 9, 9))
        self.assertEqual(broad.pairs(), ((0, 1), (0, 7), (1, 3), (1, 7)))
        self.assertEqual(broad.near(box(0, 0, 9, 9)), (0, 1, 3, 7))

    def test_edges_and_corners_meet(self):
        broad = three()
        self.assertEqual(broad.near(box(-1, 0, 1, 1)), (7,))
        self.assertEqual(broad.near(box(6, 6, 1, 1)), (3,))
        self.assertEqual(broad.near(box(2, 2, 1, 1)), (0, 7))
        self.assertEqual(broad.near(box(2, 2, 3, 3)), (0, 3, 7))
        self.assertEqual(broad.near(box("5/2", "5/2", 1, 1)), ())

    def test_near_changes_nothing(self):
        broad = three()
        broad.near(box(0, 0, 9, 9))
        self.assertEqual(broad.names, (0, 3, 7))
        self.assertEqual(broad.pairs(), ((0, 7),))

    def test_move_and_remove(self):
        broad = three()
        broad.move(3, box(1, 1, 1, 1))
        self.assertEqual(broad.pairs(), ((0, 3), (0, 7), (3, 7)))
        self.assertEqual(broad.box_of(3), box(1, 1, 1, 1))
        broad.move(7, box(40, 0, 1, 1))
        self.assertEqual(broad.pairs(), ((0, 3),))
        broad.remove(0)
        self.assertEqual(broad.pairs(), ())
        self.assertEqual(broad.names, (3, 7))
        broad.add(0, box(40, 1, 1, 1))
        self.assertEqual(broad.pairs(), ((0, 7),))

    def test_two_do_not_share_their_boxes(self):
        one, other = three(), Broad()
        self.assertEqual(other.names, ())
        other.add(0, box(0, 0, 1, 1))
        self.check(one, {7: box(0, 0, 2, 2), 0: box(2, 1, 1, 1), 3: box(5, 5, 1, 1)})

    def test_many(self):
        rng = random.Random(9)
        broad, boxes = Broad(), {}
        for step in range(400):
            name = rng.randint(0, 30)
            if name not in boxes:
                boxes[name] = random_box(rng, 9)
                broad.add(name, boxes[name])
            elif rng.random() < 0.3:
                del boxes[name]
                broad.remove(name)
            else:
                boxes[name] = random_box(rng, 9)
                broad.move(name, boxes[name])
            if step % 5 == 0:
                self.check(broad, boxes)

    def check_fault(self, error, deed):
        broad = three()
        with self.assertRaises(error):
            deed(broad)
        self.check(broad, {7: box(0, 0, 2, 2), 0: box(2, 1, 1, 1), 3: box(5, 5, 1, 1)})

    def test_add_with_a_wrong_id(self):
        for wrong in (-1, -7, 0, 3, 7):
            for a_box in [box(0, 0, 9, 9), *FLAT]:
                self.check_fault(IdError, lambda broad: broad.add(wrong, a_box))

    def test_unknown_ids(self):
        for unknown in (-1, 1, 2, 8):
            for a_box in [box(0, 0, 9, 9), *FLAT]:
                self.check_fault(IdError, lambda broad: broad.move(unknown, a_box))
            self.check_fault(IdError, lambda broad: broad.remove(unknown))
            self.check_fault(IdError, lambda broad: broad.box_of(unknown))

    def test_wrong_boxes(self):
        for flat in FLAT:
            self.check_fault(BoxError, lambda broad: broad.add(1, flat))
            self.check_fault(BoxError, lambda broad: broad.move(7, flat))
            self.check_fault(BoxError, lambda broad: broad.near(flat))

    def test_an_id_is_free_again_behind_its_removal(self):
        broad = three()
        broad.remove(7)
        self.check_gone(broad)
        broad.add(7, box(5, 5, 1, 1))
        self.assertEqual(broad.pairs(), ((3, 7),))

    def check_gone(self, broad):
        for deed in (lambda: broad.remove(7), lambda: broad.box_of(7), lambda: broad.move(7, box(0, 0, 1, 1))):
            with self.assertRaises(IdError):
                deed()
