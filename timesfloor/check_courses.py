"""Checking papers on courses."""

from timesfloor.courses import judged_course
from timesfloor.sameness import is_told


def shows_course(program, stand, steps, value):
    """Whether any value is the paper on the course of a program."""
    return is_told(value, judged_course(program, stand, steps))
