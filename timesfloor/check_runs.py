"""Checking papers on runs."""

from timesfloor.runs import judged_run
from timesfloor.sameness import is_told


def shows_run(machine, point, way, value):
    """Whether any value is the paper on the run of a point by a way."""
    return is_told(value, judged_run(machine, point, way))
