"""Floors: blocks of tiles, and whether they fit and come round."""

from timesfloor.checks import is_list
from timesfloor.errors import BadBlock, Misfit, TooMany
from timesfloor.exact import added, made, multiplied, negated
from timesfloor.laying import laid_row
from timesfloor.machines import want_machine
from timesfloor.papers import Denial, Paper, bears, fixed
from timesfloor.runs import judged_run
from timesfloor.sides import Tiling
from timesfloor.wants import want_integer, want_within

MOST_PLACES = 400
MOST_ROWS = 60
MOST_LAID = 4000


class Fits(Paper):
    """A block fits: the averages of the tops of all rows, and of the bottoms of the last one."""

    def __init__(self, averages):
        Paper.__init__(self, "fits", averages)
        self.averages = self.parts[0]

    @staticmethod
    def is_one(value):
        """Whether a value is made by calling this class."""
        return isinstance(value, Fits) and bears(value, "Fits")


class Clash(Denial):
    """A block does not fit: a row, a place, and which part of the tile there is off."""

    def __init__(self, row, place, part):
        Denial.__init__(self, "clash", row, place, part)
        self.row = self.parts[0]
        self.place = self.parts[1]
        self.part = self.parts[2]

    @staticmethod
    def is_one(value):
        """Whether a value is made by calling this class."""
        return isinstance(value, Clash) and bears(value, "Clash")


def block_of(machine, point, way, first, many):
    """The block of the tiles at many places in the rows of the points through which a way leads a point."""
    run = judged_run(machine, point, way)
    want_integer(first, "first")
    want_within(many, 1, MOST_PLACES, "many")
    if not run:
        raise Misfit("way")
    if len(way) * many > MOST_LAID:
        raise TooMany("tiles", MOST_LAID)
    return tuple([laid_row(number, machine.pieces[number], here, first, many)
                  for number, here in zip(way, run.points)])


def are_rows(value, most_rows, most_places):
    """Whether a value is a list of rows with as many items in each."""
    if not is_list(value, 1, most_rows) or not all([is_list(row, 1, most_places) for row in value]):
        return False
    return all([len(row) == len(value[0]) for row in value])


def want_block(machine, block):
    """Refuses what are no machine and no rows of items."""
    want_machine(machine, "machine")
    if not are_rows(block, MOST_ROWS, MOST_PLACES):
        raise BadBlock("block")


def are_one(side, other):
    """Whether two sides of tiles are one, lists being taken for tuples."""
    return side == other or fixed(side) == fixed(other)


def goes_on(tile, other):
    """Whether the other tile can stand to the right of a tile."""
    return tile[0] == other[0] and are_one(tile[4], other[2])


def hangs_on(above, tile):
    """Whether a tile can stand below another one."""
    return are_one(above[3], tile[1])


def closes(row):
    """Whether the right of the last tile of a row is the left of its first one."""
    return are_one(row[-1][4], row[0][2])


def first_clash(machine, block):
    """The first row and place at which a block does not fit, with the part that is off; None if it fits."""
    tiling = Tiling(machine.pieces)
    for down, row in enumerate(block):
        for place, tile in enumerate(row):
            if not tiling.has(tile):
                return down, place, "tile"
            if place > 0 and not goes_on(row[place - 1], tile):
                return down, place, "left"
            if down > 0 and not hangs_on(block[down - 1][place], tile):
                return down, place, "top"
    return None


def average(labels):
    """The average of some tops or bottoms."""
    return tuple([made(sum(column), len(labels)) for column in zip(*labels)])


def averages_of(block):
    """The averages of the tops of all rows of a block, and of the bottoms of the last one."""
    tops = [average([tile[1] for tile in row]) for row in block]
    return (*tops, average([tile[3] for tile in block[-1]]))


def judged_block(machine, block):
    """The Fits of a block, or the Clash at the first place where it does not fit."""
    want_block(machine, block)
    clash = first_clash(machine, block)
    if clash is None:
        return Fits(averages_of(block))
    row, place, part = clash
    return Clash(row, place, part)


def want_fit(machine, block):
    """Refuses what is no block that fits."""
    want_block(machine, block)
    if first_clash(machine, block) is not None:
        raise Misfit("block")


def off_of(row):
    """The off of a row of tiles."""
    share = made(1, len(row))
    return tuple([multiplied(share, added(behind, negated(ahead))) for ahead, behind in zip(row[0][2], row[-1][4])])


def offs_of(machine, block):
    """The offs of all rows of a block that fits."""
    want_fit(machine, block)
    return tuple([off_of(row) for row in block])


def comes_round(block):
    """Whether a block that fits comes round sideways and down."""
    if not all([closes(row) for row in block]):
        return False
    return all([hangs_on(last, first) for last, first in zip(block[-1], block[0])])


def is_round(machine, block):
    """Whether a block that fits comes round."""
    want_fit(machine, block)
    return comes_round(block)
