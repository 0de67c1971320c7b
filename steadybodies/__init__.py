"""Steadybodies: boxes that move in the plane, tick by tick, in exact fractions."""
