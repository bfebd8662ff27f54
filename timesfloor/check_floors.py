"""Checking papers on blocks."""

from timesfloor.checks import is_within
from timesfloor.floors import Clash, Fits, goes_on, hangs_on, judged_block, want_block
from timesfloor.sameness import is_told
from timesfloor.sides import Tiling


def are_tiles(machine, values):
    """Whether all of some values are tiles of a machine."""
    tiling = Tiling(machine.pieces)
    return all([tiling.has(value) for value in values])


def is_off(machine, block, row, place, part):
    """Whether the tile at a place of a block is off by a part, whatever else is off."""
    tile = block[row][place]
    if part == "tile":
        return not are_tiles(machine, [tile])
    if part == "left" and place > 0:
        before = block[row][place - 1]
        return are_tiles(machine, [before, tile]) and not goes_on(before, tile)
    if part == "top" and row > 0:
        above = block[row - 1][place]
        return are_tiles(machine, [above, tile]) and not hangs_on(above, tile)
    return False


def shows_block(machine, block, value):
    """Whether any value is a right paper on whether a block fits."""
    want_block(machine, block)
    if Fits.is_one(value):
        return is_told(value, judged_block(machine, block))
    if not Clash.is_one(value):
        return False
    if not is_within(value.row, 0, len(block) - 1) or not is_within(value.place, 0, len(block[0]) - 1):
        return False
    return isinstance(value.part, str) and is_off(machine, block, value.row, value.place, value.part)
