"""Laying the tiles of a piece at places of the row of a point; whether the piece holds it is not asked here."""

from timesfloor.exact import common_under, times_whole
from timesfloor.sides import carries_at, dotted, sides_of


def lines_at(sides, starts, goals, common, place):
    """What tiles need to know of a place: the whole parts of a point and of its goal so many times, and the carries.

    starts are the point's numbers times common, goals those of its goal times common and the under of the side.
    """
    wholes = [place * start // common for start in starts]
    rests = [place * start % common for start in starts]
    reached = [place * goal // (side.under * common) for side, goal in zip(sides, goals)]
    # Behind the rests there is a multiple of common in any case, so this division leaves nothing.
    marks = [(place * goal % (side.under * common) - dotted(side.row, rests)) // common
             for side, goal in zip(sides, goals)]
    return wholes, reached, carries_at(sides, marks)


def labels_between(before, wholes):
    """The labels that lead from whole parts to those of the next place."""
    return tuple([whole - ahead for ahead, whole in zip(before, wholes)])


def laid_row(number, piece, point, first, many):
    """The tiles of a piece, told with its number, at many places from the first one on."""
    sides = sides_of(piece)
    common = common_under(point)
    starts = [times_whole(item, common) for item in point]
    goals = [dotted(side.row, starts) + side.shift * common for side in sides]
    lines = [lines_at(sides, starts, goals, common, place) for place in range(first - 1, first + many)]
    return tuple([(number, labels_between(before[0], line[0]), before[2], labels_between(before[1], line[1]), line[2])
                  for before, line in zip(lines, lines[1:])])
