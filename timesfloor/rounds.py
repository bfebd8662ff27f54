"""Rounds: blocks that come round sideways and down, so that copies of them lay the whole floor."""

from timesfloor.bands import columns_of
from timesfloor.columns import ends_of
from timesfloor.errors import Misfit, TooMany
from timesfloor.exact import common_under, made
from timesfloor.floors import MOST_PLACES, MOST_ROWS
from timesfloor.laying import laid_row
from timesfloor.machines import want_machine
from timesfloor.papers import Denial, Paper, bears
from timesfloor.runs import judged_run
from timesfloor.spans import lines_of
from timesfloor.stretches import want_line
from timesfloor.walks import closed_walk
from timesfloor.wants import want_way, want_within

MOST_WIDE = 60


class Round(Paper):
    """A block so wide that comes round."""

    def __init__(self, wide, block):
        Paper.__init__(self, "round", wide, block)
        self.wide = self.parts[0]
        self.block = self.parts[1]

    @staticmethod
    def is_one(value):
        """Whether a value is made by calling this class."""
        return isinstance(value, Round) and bears(value, "Round")


class Straight(Denial):
    """No block so wide comes round."""

    def __init__(self, wide):
        Denial.__init__(self, "straight", wide)
        self.wide = self.parts[0]

    @staticmethod
    def is_one(value):
        """Whether a value is made by calling this class."""
        return isinstance(value, Straight) and bears(value, "Straight")


def want_few_rows(way):
    """Refuses a way of more pieces than a block has rows."""
    if len(way) > MOST_ROWS:
        raise TooMany("rows", MOST_ROWS)


def round_at(machine, point, way):
    """The Round of the rows of a point that comes back by a way, of the least wide."""
    run = judged_run(machine, point, way)
    if not run or run.points[0] != run.points[-1]:
        raise Misfit("point")
    want_few_rows(way)
    wide = common_under([number for here in run.points for number in here])
    if wide > MOST_PLACES:
        raise TooMany("places", MOST_PLACES)
    return Round(wide, [laid_row(number, machine.pieces[number], here, 1, wide)
                        for number, here in zip(way, run.points)])


def comes_back_whole(lines, way, wide, first):
    """Whether a number, told by the integer that it is wide times, comes back by a way that has such numbers alone."""
    number = first
    for piece in way:
        line = lines[piece]
        if not line.square[0] * wide <= number <= line.square[1] * wide:
            return False
        above = line.factor * number + line.start * wide
        if above % line.under != 0:
            return False
        number = above // line.under
    return number == first


def rounds_wide(machine, way, wide):
    """The numbers that come back by a way such that all numbers on it times wide are integers, ascending."""
    want_machine(machine, "machine")
    want_way(way, len(machine.pieces))
    want_within(wide, 1, MOST_WIDE, "wide")
    want_line(machine)
    lines = lines_of(machine)
    low, high = lines[way[0]].square
    return tuple([made(first, wide) for first in range(low * wide, high * wide + 1)
                  if comes_back_whole(lines, way, wide, first)])


def want_rounding(machine, way, wide):
    """Refuses what are no machine, no way of few rows, and no wide."""
    want_machine(machine, "machine")
    want_way(way, len(machine.pieces))
    want_within(wide, 1, MOST_WIDE, "wide")
    want_few_rows(way)


def judged_round(machine, way, wide):
    """The Round of any block so wide by a way that comes round, found by its tiles; Straight if there is none."""
    want_rounding(machine, way, wide)
    columns = [column for column in columns_of(machine, way) if column[-1][3] == column[0][1]]
    walk = closed_walk(ends_of(columns), wide)
    if walk is None:
        return Straight(wide)
    laid = [columns[number] for number in walk]
    return Round(wide, list(zip(*laid)))
