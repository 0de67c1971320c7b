"""The interface: each name stands in its file, with its arguments; each method in its class."""

import importlib
import inspect
import unittest

FUNCTIONS = {
    "ratios": (
        "fraction(numerator, denominator)", "plus(a, b)", "minus(a, b)", "times(a, b)", "over(a, b)", "compare(a, b)",
        "least(items)", "greatest(items)", "write_fraction(a)", "read_fraction(text)",
    ),
    "vectors": ("add(a, b)", "subtract(a, b)", "scale(a, factor)", "dot(a, b)"),
    "boxes": (
        "gap(a, b, axis)", "overlaps(a, b)", "meets(a, b)", "stretch(a, b, axis)", "moved(box, vector)", "hull(a, b)",
    ),
    "sweeps": ("overlap_times(a, move_a, b, move_b)", "first_contact(a, move_a, b, move_b)"),
    "rays": ("ray_time(box, origin, path)", "ray_stretch(box, origin, path)"),
}


class InterfaceTest(unittest.TestCase):
    def test_functions(self):
        for module_name, calls in FUNCTIONS.items():
            module = importlib.import_module(f"steadybodies.{module_name}")
            for call in calls:
                name = call.split("(")[0]
                function = vars(module)[name]
                self.assertEqual(name + str(inspect.signature(function)), call)
                self.assertEqual(function.__module__, module.__name__)
