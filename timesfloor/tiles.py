"""The tiles of a machine: which there are, and which one stands at a place of the row of a point."""

from timesfloor.errors import Misfit, TooMany
from timesfloor.laying import laid_row
from timesfloor.machines import want_held, want_machine
from timesfloor.pieces import piece_holds
from timesfloor.sides import Tiling, many_with, sides_of, tiles_with, tops_of
from timesfloor.wants import want_integer, want_within

MOST_CARRIES = 4000
MOST_TILES = 4000


def want_few_carries(sides):
    """Refuses a piece that has too many carries at an index."""
    if max([side.many() for side in sides]) > MOST_CARRIES:
        raise TooMany("carries", MOST_CARRIES)


def few_sides(machine, piece):
    """The sides of a piece, told by its number, that has not too many carries."""
    want_machine(machine, "machine")
    want_within(piece, 0, len(machine.pieces) - 1, "piece")
    sides = sides_of(machine.pieces[piece])
    want_few_carries(sides)
    return sides


def carries_of(machine, piece):
    """For each index the carries of a piece."""
    return tuple([tuple([side.carry(mark) for mark in side.lefts(0)]) for side in few_sides(machine, piece)])


def tiles_of(machine, piece):
    """All tiles of a piece, by tops, then lefts, then rights."""
    sides = few_sides(machine, piece)
    tops = tops_of(machine.pieces[piece])
    if sum([many_with(sides, top) for top in tops]) > MOST_TILES:
        raise TooMany("tiles", MOST_TILES)
    return tuple([tile for top in tops for tile in tiles_with(piece, sides, top)])


def is_tile(machine, value):
    """Whether any value is a tile of the machine."""
    want_machine(machine, "machine")
    return Tiling(machine.pieces).has(value)


def tile_at(machine, piece, point, place):
    """The tile of a piece at a place of the row of a point that it holds."""
    want_held(machine, piece, point)
    want_integer(place, "place")
    if not piece_holds(machine.pieces[piece], point):
        raise Misfit("point")
    return laid_row(piece, machine.pieces[piece], point, place, 1)[0]
