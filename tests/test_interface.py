"""The interface: each name stands in its file, with its arguments; each method in its class."""

import importlib
import inspect
import unittest

FUNCTIONS = {
    "ratios": (
        "fraction(numerator, denominator)", "plus(a, b)", "minus(a, b)", "times(a, b)", "over(a, b)", "compare(a, b)",
        "least(items)", "greatest(items)", "write_fraction(a)", "read_fraction(text)",
    ),
    "vectors": ("add(a, b)", "subtract(a, b)", "scale(a, factor)", "dot(a, b)"),
    "boxes": (
        "gap(a, b, axis)", "overlaps(a, b)", "meets(a, b)", "stretch(a, b, axis)", "moved(box, vector)", "hull(a, b)",
    ),
    "sweeps": ("overlap_times(a, move_a, b, move_b)", "first_contact(a, move_a, b, move_b)"),
    "rays": ("ray_time(box, origin, path)", "ray_stretch(box, origin, path)"),
    "states": ("check_state(state)", "body_of(state, name)", "renamed(state, names)"),
    "notation": ("write_state(state)", "read_state(text)"),
    "rows": (
        "check_pushes(state, pushes)", "free_speeds(state, pushes)", "axis_of(state, pushes, one, other)",
        "rows_of(state, pushes)",
    ),
    "systems": ("solve(matrix, right)",),
    "nearest": ("nearest(weights, wishes, lines)",),
    "judging": ("check_nearest(weights, wishes, lines, point, forces)",),
    "ticks": ("settled(state, pushes)", "check_forces(state, pushes, speeds, forces)", "tick(state, pushes)"),
    "ledger": ("momentum(state)", "energy(state)", "force_on(state, pushes, forces, name)", "contacts(state)"),
    "islands": ("islands(state, pushes)", "alone(state, island)"),
    "resting": ("still(state, pushes)", "at_rest(state, pushes)"),
    "zones": ("crossings(state, pushes, zone)",),
    "walking": ("walk(state, box, wish, first)",),
    "casting": ("cast(state, origin, path)", "sweep(state, box, move)"),
    "digests": ("digest(text)",),
    "replaying": ("replay(text)",),
    "forecasts": ("forecast(state, pushes)",),
    "unions": (
        "area(boxes)", "covered(boxes, point)", "deepest(boxes)", "pieces(boxes)", "free_place(area_box, boxes, size)",
    ),
    "routes": (
        "route(state, box, goal)", "check_route(state, box, goal, places)", "length_of(places)",
    ),
    "fair": ("fair_forces(state, pushes)", "loads(state, pushes)"),
    "compounds": (
        "compound(first, boxes, mass, grip, speed)", "with_compound(state, first, boxes, mass, grip, speed)",
        "outline(state, names)",
    ),
    "motors": ("motor_pushes(state, pushes, motors)", "joined(pushes, others)"),
    "limbs": ("limbs(state)", "play(state, one, other, axis)", "posed(state, places)"),
    "streams": ("parted(state, region)", "merged(one, other)", "tick_apart(state, pushes, region)"),
    "runs": ("record(state, rows_of_pushes)", "check_run(state, run)"),
    "running": ("write_run(run)", "read_run(text)"),
    "flights": (
        "flight(place, speed, pull, n)", "crossing_tick(place, speed, pull, line, most)", "highest_tick(speed, pull)",
    ),
    "deltas": ("difference(one, other)", "changed(state, items)"),
}
CLASSES = {
    ("broad", "Broad"): (
        "__init__(self)", "add(self, name, box)", "move(self, name, box)", "remove(self, name)", "pairs(self)",
        "near(self, box)", "box_of(self, name)",
    ),
    ("worlds", "World"): (
        "__init__(self, state)", "push(self, name, vector)", "tick(self)", "add(self, body)", "remove(self, name)",
        "back(self, count)",
    ),
    ("watches", "Watch"): ("__init__(self, zones)", "told(self, state, pushes)", "inside(self, zone)"),
    ("trees", "Tree"): (
        "__init__(self)", "add(self, name, box)", "move(self, name, box)", "remove(self, name)", "box_of(self, name)",
        "near(self, box)", "hit(self, origin, path)", "closest(self, point)", "depth(self)",
    ),
    ("rollback", "Rollback"): (
        "__init__(self, state)", "push(self, at, name, vector)", "advance(self)", "state_at(self, at)",
    ),
}
PROPERTIES = {
    ("broad", "Broad"): ("names",),
    ("worlds", "World"): ("state", "pushes", "ticks", "journal", "mark"),
    ("trees", "Tree"): ("names",),
    ("rollback", "Rollback"): ("state", "number"),
}


class InterfaceTest(unittest.TestCase):
    def test_functions(self):
        for module_name, calls in FUNCTIONS.items():
            module = importlib.import_module(f"steadybodies.{module_name}")
            for call in calls:
                name = call.split("(")[0]
                function = vars(module)[name]
                self.assertEqual(name + str(inspect.signature(function)), call)
                self.assertEqual(function.__module__, module.__name__)

    def test_methods(self):
        for (module_name, class_name), calls in CLASSES.items():
            owner = self.class_of(module_name, class_name)
            for call in calls:
                name = call.split("(")[0]
                self.assertEqual(name + str(inspect.signature(vars(owner)[name])), call)

    def test_properties(self):
        for (module_name, class_name), names in PROPERTIES.items():
            owner = self.class_of(module_name, class_name)
            for name in names:
                self.assertIsInstance(vars(owner)[name], property)

    def class_of(self, module_name, class_name):
        module = importlib.import_module(f"steadybodies.{module_name}")
        owner = vars(module)[class_name]
        self.assertEqual(owner.__module__, module.__name__)
        return owner
