"""Points 2 and 3 over the whole program: the kinds of what comes out, and arguments that stay as they were."""

import copy
import importlib
import unittest

from helpers import body, box, fr, joint, push, state, vec
from steadybodies.broad import Broad
from steadybodies.notation import write_state
from steadybodies.rollback import Rollback
from steadybodies.running import write_run
from steadybodies.runs import record
from steadybodies.ticks import settled
from steadybodies.trees import Tree
from steadybodies.watches import Watch
from steadybodies.worlds import World
from test_interface import CLASSES, FUNCTIONS, PROPERTIES

STATE = state(
    [body(0, -9, -1, 99, 1, 0, 1), body(2, 0, 0, 2, 1, 1, 1), body(5, 3, 0, mass=2), body(7, 0, 1, grip="1/2")],
    [joint(2, 5, 0, 2, 4)],
    (0, -1),
)
OTHER = state([body(0, -9, -1, 99, 1, 0, 1), body(7, 40, 1), body(8, 50, 0)], [], (0, -1))
PUSHES = (push(5, 3), push(7, "1/2", 1))
SPEEDS, FORCES = settled(STATE, PUSHES)
RUN = record(STATE, (PUSHES, ()))
BOXES = (box(0, 0, 2, 2), box(1, 1, 2, 2))
TASK = ((1, 2), (fr(3), fr(0)), ((((0, fr(-1)), (1, fr(1))), fr(0)),))
MOTORS = ((2, 5, 0, fr(1), fr(9)),)
HALF, THIRD = fr("1/2"), fr("1/3")
HIGH = box(0, 9, 1, 1)

ARGUMENTS = {
    "fraction": (6, -4), "plus": (HALF, THIRD), "minus": (HALF, THIRD), "times": (HALF, THIRD), "over": (HALF, THIRD),
    "compare": (HALF, THIRD), "least": ((HALF, THIRD),), "greatest": ((HALF, THIRD),), "write_fraction": (HALF,),
    "read_fraction": ("1/2",), "add": (vec(1, 2), vec(3, 4)), "subtract": (vec(1, 2), vec(3, 4)),
    "scale": (vec(1, 2), HALF), "dot": (vec(1, 2), vec(3, 4)), "gap": (*BOXES, 0), "overlaps": BOXES, "meets": BOXES,
    "stretch": (box(0, 0, 1, 1), box(1, 0, 1, 1), 0), "moved": (HIGH, vec(1, 1)), "hull": BOXES,
    "overlap_times": (HIGH, vec(0, -9), BOXES[0], vec(0, 0)), "first_contact": (HIGH, vec(0, -9), BOXES[0], vec(0, 0)),
    "ray_time": (HIGH, vec(0, 0), vec(1, 18)), "ray_stretch": (HIGH, vec(0, 0), vec(1, 18)), "check_state": (STATE,),
    "body_of": (STATE, 2), "renamed": (STATE, (4, 3, 2, 1)), "write_state": (STATE,),
    "read_state": (write_state(STATE),),
    "check_pushes": (STATE, PUSHES), "free_speeds": (STATE, PUSHES), "axis_of": (STATE, PUSHES, 2, 5),
    "rows_of": (STATE, PUSHES), "solve": (((fr(2),),), (fr(3),)), "nearest": TASK,
    "check_nearest": (*TASK, (fr(1), fr(1)), ((0, fr(2)),)), "settled": (STATE, PUSHES),
    "check_forces": (STATE, PUSHES, SPEEDS, FORCES), "tick": (STATE, PUSHES), "momentum": (STATE,), "energy": (STATE,),
    "force_on": (STATE, PUSHES, FORCES, 2), "contacts": (STATE,), "islands": (STATE, PUSHES), "alone": (STATE, (2, 7)),
    "still": (STATE, PUSHES), "at_rest": (STATE, PUSHES), "crossings": (STATE, PUSHES, BOXES[0]),
    "walk": (STATE, HIGH, vec(3, -20), 0), "cast": (STATE, vec(0, 9), vec(0, -9)), "sweep": (STATE, HIGH, vec(0, -20)),
    "digest": ("text",), "replay": (write_state(STATE) + "tick\n",), "forecast": (STATE, PUSHES), "area": (BOXES,),
    "covered": (BOXES, vec(1, 1)), "deepest": (BOXES,), "pieces": (BOXES,), "free_place": (HIGH, BOXES, vec(1, "1/2")),
    "route": (STATE, HIGH, vec(30, 0)), "check_route": (STATE, HIGH, vec(0, 20), (vec(0, 9), vec(0, 20))),
    "length_of": ((vec(0, 9), vec(0, 20)),), "fair_forces": (STATE, PUSHES), "loads": (STATE, PUSHES),
    "compound": (9, BOXES, 1, HALF, vec(1, 0)), "outline": (STATE, (2, 7)),
    "with_compound": (state([]), 9, BOXES, 1, HALF, vec(1, 0)), "motor_pushes": (STATE, PUSHES, MOTORS),
    "joined": (PUSHES, (push(5, 1), push(6))), "limbs": (STATE,), "play": (STATE, 2, 5, 0),
    "posed": (STATE, ((7, vec(0, 20)),)), "parted": (STATE, BOXES[0]), "merged": (state([], [], (0, -1)), STATE),
    "tick_apart": (STATE, PUSHES, BOXES[0]), "record": (STATE, (PUSHES, ())), "check_run": (STATE, RUN),
    "write_run": (RUN,), "read_run": (write_run(RUN),), "flight": (vec(0, 0), vec(1, 1), vec(0, -1), 9),
    "crossing_tick": (fr(5), fr(1), fr(-1), fr(0), 99), "highest_tick": (fr(9), fr(-1)), "difference": (STATE, OTHER),
    "changed": (STATE, (("gone", 7), ("pull", vec(0, 0)))),
}


def kinds_in(worth):
    """The kinds of all that a value is made of, at every depth."""
    if type(worth) is tuple:
        return {tuple}.union(*[kinds_in(part) for part in worth])
    return {type(worth)}


class WholeTest(unittest.TestCase):
    KINDS = {tuple, int, str, bool, type(None)}

    def check(self, worth):
        self.assertLessEqual(kinds_in(worth), self.KINDS)

    def test_results_and_arguments_of_all_functions(self):
        told = {call.split("(")[0]: module for module, calls in FUNCTIONS.items() for call in calls}
        self.assertEqual(set(ARGUMENTS), set(told))
        for name, arguments in ARGUMENTS.items():
            with self.subTest(name):
                before = copy.deepcopy(arguments)
                self.check(arguments)
                found = getattr(importlib.import_module(f"steadybodies.{told[name]}"), name)(*arguments)
                if name == "replay":
                    self.assertIsInstance(found, World)
                else:
                    self.check(found)
                self.assertEqual(arguments, before)

    def test_results_of_all_classes(self):
        objects = {"Broad": Broad(), "Tree": Tree(), "World": World(STATE), "Rollback": Rollback(STATE)}
        objects["Watch"] = Watch(BOXES)
        deeds = {
            "Broad": (("add", 3, BOXES[0]), ("add", 4, BOXES[1]), ("move", 3, HIGH), ("move", 3, BOXES[0]), ("pairs",),
                      ("near", HIGH), ("box_of", 3), ("remove", 4)),
            "Tree": (("add", 3, BOXES[0]), ("add", 4, BOXES[1]), ("move", 3, HIGH), ("near", HIGH), ("box_of", 3),
                     ("hit", vec(0, 0), vec(1, 18)), ("closest", vec(0, 0)), ("depth",), ("remove", 4)),
            "World": (("push", 5, vec(1, 1)), ("tick",), ("add", body(9, 90, 0)), ("remove", 9), ("back", 1)),
            "Rollback": (("push", 0, 5, vec(1, 1)), ("advance",), ("push", 0, 5, vec(1, 1)), ("state_at", 1)),
            "Watch": (("told", STATE, PUSHES), ("inside", 0)),
        }
        self.assertEqual({name for _, name in CLASSES}, set(objects))
        for (_, name), calls in CLASSES.items():
            self.assertEqual({call.split("(")[0] for call in calls} - {"__init__"}, {deed[0] for deed in deeds[name]})
            for method, *arguments in deeds[name]:
                with self.subTest((name, method)):
                    self.check(getattr(objects[name], method)(*arguments))
        for (_, name), properties in PROPERTIES.items():
            for told in properties:
                self.check(getattr(objects[name], told))
