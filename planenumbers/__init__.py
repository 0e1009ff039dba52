"""Whole numbers of the plane: planenumbers.plane.answers(calls) answers a line of calls."""
