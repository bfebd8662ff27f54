"""Pictures of blocks, and the texts of tiles."""

from timesfloor.errors import BadTile, Misfit
from timesfloor.floors import want_block
from timesfloor.machines import want_machine
from timesfloor.number_texts import number_text
from timesfloor.reading import Items
from timesfloor.sides import Tiling

NARROW_SIGNS = ".#"
BROAD_SIGNS = ".:-#"


def sign_of(corner, top):
    """The sign of a tile."""
    place = 0
    for low, label in zip(corner, top):
        place = 2 * place + label - low
    return NARROW_SIGNS[place] if len(top) == 1 else BROAD_SIGNS[place]


def picture(machine, block):
    """The strings of the picture of a block, row by row."""
    want_block(machine, block)
    tiling = Tiling(machine.pieces)
    if not all([tiling.has(tile) for row in block for tile in row]):
        raise Misfit("block")
    return tuple(["".join([sign_of(machine.pieces[tile[0]][0], tile[1]) for tile in row]) for row in block])


def tile_text(machine, tile):
    """The text of a tile."""
    want_machine(machine, "machine")
    if not Tiling(machine.pieces).has(tile):
        raise BadTile("tile")
    members = [member for part in tile[1:] for member in part]
    return " ".join([number_text(number) for number in [tile[0]] + members])


def take_labels(items, many):
    """Takes so many integers."""
    return tuple([items.take_integer(None, None) for _ in range(many)])


def take_numbers(items, many):
    """Takes so many numbers."""
    return tuple([items.take_number() for _ in range(many)])


def tile_of(machine, text):
    """The tile whose text this is."""
    want_machine(machine, "machine")
    items = Items(text)
    wide = machine.wide
    number = items.take_integer(0, len(machine.pieces) - 1)
    top, left = take_labels(items, wide), take_numbers(items, wide)
    bottom, right = take_labels(items, wide), take_numbers(items, wide)
    items.take_end()
    tile = (number, top, left, bottom, right)
    items.want_whole(Tiling(machine.pieces).has(tile))
    return tile
