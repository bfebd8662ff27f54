"""Runs of machines by ways."""

from timesfloor.exact import common_under, made, times_whole
from timesfloor.machines import want_machine
from timesfloor.papers import Denial, Paper, bears, fixed
from timesfloor.pieces import piece_holds, piece_leads
from timesfloor.wants import MOST_STEPS, want_point, want_way, want_within


class Goes(Paper):
    """A point goes by a way: all points of its run."""

    def __init__(self, points):
        Paper.__init__(self, "goes", points)
        self.points = self.parts[0]

    @staticmethod
    def is_one(value):
        """Whether a value is made by calling this class."""
        return isinstance(value, Goes) and bears(value, "Goes")


class Stops(Denial):
    """A point does not go by a way: the first step whose piece does not hold the point that has come to it."""

    def __init__(self, step, point):
        Denial.__init__(self, "stops", step, point)
        self.step = self.parts[0]
        self.point = self.parts[1]

    @staticmethod
    def is_one(value):
        """Whether a value is made by calling this class."""
        return isinstance(value, Stops) and bears(value, "Stops")


def judged_run(machine, point, way):
    """The Goes of the run of a point by a way, or the Stops of where it stops."""
    want_machine(machine, "machine")
    want_point(point, machine.wide)
    want_way(way, len(machine.pieces))
    points = [fixed(point)]
    for step, number in enumerate(way):
        piece = machine.pieces[number]
        if not piece_holds(piece, points[-1]):
            return Stops(step, points[-1])
        points.append(piece_leads(piece, points[-1]))
    return Goes(points)


def first_holding(machine, point):
    """The least number of a piece that holds a point; None if none does."""
    for number, piece in enumerate(machine.pieces):
        if piece_holds(piece, point):
            return number
    return None


def first_run(machine, point, steps):
    """The pair (way, points) of the run by the first pieces that hold the points."""
    want_machine(machine, "machine")
    want_point(point, machine.wide)
    want_within(steps, 0, MOST_STEPS, "steps")
    way = []
    points = [fixed(point)]
    while len(way) < steps:
        number = first_holding(machine, points[-1])
        if number is None:
            break
        way.append(number)
        points.append(piece_leads(machine.pieces[number], points[-1]))
    return tuple(way), tuple(points)


def line_behind(row, start, lines, under, common):
    """The line of one number behind a piece: its factors, and last its shift, as integers.

    The lines ahead are to be divided by under, the new one by common times under.
    """
    factors = [times_whole(number, common) for number in row]
    line = [sum([factor * ahead[place] for factor, ahead in zip(factors, lines)]) for place in range(len(row) + 1)]
    line[-1] += times_whole(start, common) * under
    return line


def through(machine, way):
    """The pair (rows, shift) by which a way leads, whatever the squares are."""
    want_machine(machine, "machine")
    want_way(way, len(machine.pieces))
    # All is kept over one common under, and brought to its one form at the end alone: this spares long divisions.
    under = 1
    lines = [[int(place == at) for place in range(machine.wide + 1)] for at in range(machine.wide)]
    for number in way:
        _, rows, shift = machine.pieces[number]
        common = common_under([factor for row in rows for factor in row] + list(shift))
        lines = [line_behind(row, start, lines, under, common) for row, start in zip(rows, shift)]
        under = under * common
    told = [tuple([made(value, under) for value in line]) for line in lines]
    return tuple([line[:-1] for line in told]), tuple([line[-1] for line in told])
