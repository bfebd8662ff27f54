"""Checking papers on what becomes of a machine."""

from timesfloor.checks import is_integer, is_list, is_within
from timesfloor.exact import is_less
from timesfloor.judged import Dies, Returns, Stays, Unsure, judged, want_bounds
from timesfloor.nevers import Maybe, Never, want_turns, weighing_primes
from timesfloor.numbers import is_number
from timesfloor.runs import judged_run
from timesfloor.sameness import is_same, is_told
from timesfloor.spans import first_reaching, leading_into, lines_of
from timesfloor.stretches import MOST_STRETCHES, living
from timesfloor.wants import is_way


def comes_back(machine, number, way):
    """Whether any values are a number and a way by which it comes back."""
    if not is_number(number) or not is_way(way, len(machine.pieces)):
        return False
    run = judged_run(machine, (number,), way)
    return bool(run) and run.points[0] == run.points[-1]


def is_stretch(value):
    """Whether a value is a stretch."""
    return is_list(value, 2, 2) and is_number(value[0]) and is_number(value[1]) and not is_less(value[1], value[0])


def are_stretches(value):
    """Whether a value is a list of stretches, ascending and apart."""
    if not is_list(value, 1, MOST_STRETCHES) or not all([is_stretch(item) for item in value]):
        return False
    return all([is_less(one[1], other[0]) for one, other in zip(value, value[1:])])


def is_covered(stretch, wholes):
    """Whether all numbers of a stretch lie in some stretches that are ascending and apart."""
    at = first_reaching(wholes, stretch[1])
    return at < len(wholes) and not is_less(stretch[0], wholes[at][0])


def are_kept(machine, stretches):
    """Whether each number of stretches, ascending and apart, is led by some piece to a number of them."""
    sources = leading_into(lines_of(machine), stretches)
    return all([is_covered(stretch, sources) for stretch in stretches])


def shows_judged(machine, most, long, value):
    """Whether any value is a right paper on what becomes of a machine."""
    want_bounds(machine, most, long)
    if Dies.is_one(value):
        return is_within(value.steps, 1, most) and not living(machine, value.steps)
    if Returns.is_one(value):
        return comes_back(machine, value.number, value.way)
    if Stays.is_one(value):
        return are_stretches(value.stretches) and are_kept(machine, value.stretches)
    if Unsure.is_one(value):
        return is_same(value.parts, (most, long)) and is_told(value, judged(machine, most, long))
    return False


def shows_never(machine, value):
    """Whether any value is a right paper on a prime that weighs in all pieces to one side."""
    want_turns(machine)
    primes = weighing_primes(machine)
    if Never.is_one(value):
        return is_integer(value.prime) and value.prime in primes
    return Maybe.is_one(value) and not primes
