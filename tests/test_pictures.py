"""Pictures of blocks, and the texts of tiles [15]."""

from random import Random

from timesfloor import floors, machines, pictures, tiles
from timesfloor.errors import BadText
from timesfloor.machines import Machine, line_machine
from timesfloor.pictures import picture, tile_of, tile_text
from timesfloor.tiles import is_tile, tile_at, tiles_of

from tests.examples_desks import PICTURES
from tests.helpers import Case
from tests.machines_made import nested_lists, some_machines
from tests.test_floors import FLIP, OFF_BLOCKS, SWAP, some_blocks
from tests.test_tiles import MANY, NO_MACHINES, OFF_TILES
from tests.tiles_told import within

OFF_WORDS = ("", "x", "+1", "01", "-0", "1.0", "2/4", "1/1", "0/2", "1/-2", "//", "/", "-", "\u0661", "1\n", "1" * 141, "-" + "1" * 141,
             "1/" + "3" * 141)


def number_word(number):
    return f"{number[0]}/{number[1]}" if isinstance(number, (tuple, list)) else str(number)


def picture_told(machine, block):
    return tuple("".join({(0,): ".", (1,): "#", (0, 0): ".", (0, 1): ":", (1, 0): "-", (1, 1): "#"}[
        tuple(label - low for label, low in zip(tile[1], machine.pieces[tile[0]][0]))] for tile in row) for row in block)


def text_told(tile):
    return " ".join([str(tile[0])] + [number_word(member) for part in tile[1:] for member in part])


def some_tiles(seed, many):
    """Machines with tiles of them."""
    random = Random(seed)
    for machine in some_machines(seed, many):
        for number, piece in enumerate(machine.pieces):
            yield machine, tile_at(machine, number, within(random, piece), random.randrange(-99, 99))


class PictureTest(Case):

    def test_examples(self):
        self.check_examples(PICTURES, {**vars(machines), **vars(floors), **vars(tiles), **vars(pictures)})

    def test_blocks_that_fit(self):
        signs = {1: set(), 2: set()}
        for machine, _, _, _, block in some_blocks(171, 120, 6):
            told = picture_told(machine, block)
            self.assert_same(picture(machine, block), told)
            self.assert_same(picture(block=nested_lists(block), machine=machine), told)
            signs[machine.wide].update(*told)
        self.assertEqual(signs, {1: set(".#"), 2: set(".:-#")})

    def test_other_blocks(self):
        """Whether the tiles fit is not asked, nor of which pieces they are."""
        random = Random(172)
        for machine in (FLIP, SWAP, line_machine([(-3, 2, 0), (5, (1, 2), 0)])):
            known = [tile for number in range(len(machine.pieces)) for tile in tiles_of(machine, number)]
            for _ in range(20):
                many = random.randrange(1, 9)
                block = [[random.choice(known) for _ in range(many)] for _ in range(random.randrange(1, 5))]
                self.assert_same(picture(machine, block), picture_told(machine, block))
                self.assert_same(picture(machine, tuple(map(tuple, block))), picture_told(machine, block))

    def test_signs(self):
        still = Machine(2, [((-1, 4), ((0, 0), (0, 0)), (0, 0))])
        tiles = [(0, top, (0, 0), (0, 0), (0, 0)) for top in ((-1, 4), (-1, 5), (0, 4), (0, 5))]
        self.assert_same(picture(still, [tiles, tiles[::-1]]), (".:-#", "#-:."))
        still = line_machine([(-1, 0, 0), (7, 0, 0)])
        tiles = [(number, (top,), (0,), (0,), (0,)) for number, top in ((0, -1), (0, 0), (1, 7), (1, 8))]
        self.assert_same(picture(still, [tiles]), (".#.#",))

    def test_sizes(self):
        tile = (1, (1,), (0,), (1,), (0,))
        for rows, places in ((1, 1), (60, 1), (1, 400), (60, 400)):
            self.assert_same(picture(FLIP, [[tile] * places] * rows), ("#" * places,) * rows)
        for rows, places in ((61, 1), (1, 401), (60, 401), (61, 400)):
            self.assert_raises(("BadBlock", "block"), picture, FLIP, [[tile] * places] * rows)

    def test_no_tiles(self):
        tile = (1, (1,), (0,), (1,), (0,))
        for item in OFF_TILES + ((True, *tile[1:]), (3, *tile[1:]), (1, (True,), *tile[2:]), (*tile[:4], (1,)), (1, (2,), (0,), (2,), (0,)),
                                 (1.0, *tile[1:]), tile[:4], (*tile, 0), [tile]):
            for block in ([[item]], [[tile, item]], [[tile], [item]], [[item, tile], [tile, tile]], ([tile, tile], (tile, item))):
                self.assert_raises(("Misfit", "block"), picture, FLIP, block)
        self.assert_raises(("Misfit", "block"), picture, SWAP, [[tile]])

    def test_refuses(self):
        for value in NO_MACHINES:
            self.assert_raises(("BadMachine", "machine"), picture, value, None)
        for value in OFF_BLOCKS:
            self.assert_raises(("BadBlock", "block"), picture, FLIP, value)
            self.assert_raises(("BadBlock", "block"), picture, block=value, machine=SWAP)


class TileTextTest(Case):

    def assert_off(self, machine, text, item):
        self.assert_raises(("BadText", 0, item), tile_of, machine, text)

    def test_there_and_back(self):
        for machine, tile in some_tiles(173, 80):
            text = tile_text(machine, tile)
            self.assert_same(text, text_told(tile))
            self.assert_same(tile_text(tile=nested_lists(tile), machine=machine), text)
            self.assert_same(tile_of(machine, text), tile)
            self.assert_same(tile_of(text=text, machine=machine), tile)
        for machine in (FLIP, SWAP):
            for number in range(len(machine.pieces)):
                for tile in tiles_of(machine, number):
                    self.assert_same(tile_of(machine, tile_text(machine, tile)), tile)

    def test_large_numbers(self):
        point = [(1, 7)]
        for number in range(6):
            tile = tile_at(MANY, number, point, 10 ** 20 + 3)
            self.assert_same(tile_of(MANY, tile_text(MANY, tile)), tile)
        far = line_machine([(1000, 1000000, 1000000)])
        tile = tile_at(far, 0, [(2001, 2)], 1)
        self.assert_same(tile_text(far, tile), text_told(tile))
        self.assert_same(tile_of(far, tile_text(far, tile)), tile)

    def test_no_tiles(self):
        for value in OFF_TILES + ((True, (1,), (0,), (1,), (0,)), (1, (1,), (0,), (1,), (1,)), (3, (1,), (0,), (1,), (0,)), "1 1 0 1 0",
                                  (1, (1,), (False,), (1,), (0,)), (1, 1, 0, 1, 0), [[1, (1,), (0,), (1,), (0,)]]):
            self.assert_raises(("BadTile", "tile"), tile_text, FLIP, value)
            self.assert_raises(("BadTile", "tile"), tile_text, tile=value, machine=SWAP)
        for value in NO_MACHINES:
            self.assert_raises(("BadMachine", "machine"), tile_text, value, None)
            self.assert_raises(("BadMachine", "machine"), tile_of, value, None)

    def test_words_that_are_off(self):
        random = Random(174)
        for machine, tile in some_tiles(175, 15):
            words = tile_text(machine, tile).split(" ")
            wide = machine.wide
            for at in range(len(words)):
                off = OFF_WORDS
                if (at - 1) // wide in (0, 2):
                    off += ("1/2", "-3/2")
                if at == 0:
                    off += ("1/2", "-1", str(len(machine.pieces)), "60")
                for item in off:
                    self.assert_off(machine, " ".join(words[:at] + [item] + words[at + 1:]), at)
                    self.assert_off(machine, " ".join(words[:at] + [item]), at)
                # What is of the right form, but makes no tile, shows with the last item.
                forms = ["5" * 140, "-" + "7" * 140, "99999"]
                if (at - 1) // wide in (1, 3):
                    forms += ["1/" + "3" * 140, "-1" + "0" * 139 + "/" + "3" * 140, "1/997"]
                for item in forms if at > 0 else ():
                    text = " ".join(words[:at] + [item] + words[at + 1:])
                    self.assert_off(machine, text, len(words) - 1)
                    self.assert_off(machine, f"{text} 0", len(words))
                    self.assert_off(machine, f"{text} ", len(words))
                more = random.choice(("0", "1", "x", ""))
                self.assert_off(machine, " ".join(words + [more]), len(words))
                self.assert_off(machine, " ".join(words[:at]), at)

    def test_exchanged(self):
        """A text whose items are exchanged is that of the tile that they tell, or of none."""
        met = {True: 0, False: 0}
        for machine, tile in some_tiles(176, 30):
            words = tile_text(machine, tile).split(" ")
            for at in range(len(words)):
                for to in range(at):
                    other = list(words)
                    other[at], other[to] = other[to], other[at]
                    try:
                        told = tile_of(machine, " ".join(other))
                    except BadText as error:
                        self.assertTrue(error.line == 0 and 0 <= error.item < len(words))
                        met[False] += 1
                    else:
                        self.assertEqual(text_told(told), " ".join(other))
                        self.assertTrue(is_tile(machine, told))
                        met[True] += 1
        self.assertGreater(min(met.values()), 20)

    def test_left_out_and_put_in(self):
        for text, item in (("", 0), (" ", 0), ("1", 1), ("1 1 0 1", 4), ("1 1 0 1 0 0", 5), ("1 1 0 1 0 ", 5), (" 1 1 0 1 0", 0), ("1  1 0 1 0", 1),
                           ("1 1 0 1 1", 4), ("1 2 0 2 0", 4), ("1 1 1 1 1", 4), ("1 0 0 1 0", 4), ("3 1 0 1 0", 0), ("1 1 1/2 1 1/2", 4),
                           ("1 1 0 1 0\n", 4), ("1\t1 0 1 0", 0), ("2 3 0 1 1/2", None), ("1 1 0 1 0", None)):
            if item is None:
                self.assertEqual(tile_text(FLIP, tile_of(FLIP, text)), text)
            else:
                self.assert_off(FLIP, text, item)

    def test_no_strings(self):
        for value in (None, 1, True, b"1 1 0 1 0", ["1", "1", "0", "1", "0"], (1, (1,), (0,), (1,), (0,)), {}, 1.5):
            self.assert_off(FLIP, value, 0)
            self.assert_off(SWAP, value, 0)
