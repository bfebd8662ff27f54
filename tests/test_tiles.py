"""Tiles [8]."""

from fractions import Fraction
from random import Random

from timesfloor import machines, tiles
from timesfloor.machines import Machine, line_machine
from timesfloor.papers import fixed
from timesfloor.tiles import carries_of, is_tile, tile_at, tiles_of

from tests.examples_floors import TILES
from tests.helpers import Case
from tests.machines_made import formed, nested_lists, some_machines, worth
from tests.test_rows import FAR, NO_INTEGERS
from tests.tiles_told import carries_told, tile_told, tiles_told, within

NO_MACHINES = (None, "1 / 1 2 0", 1, True, [], (1, ()))
OFF_PIECES = (None, True, False, -1, 3, "0", 0.0, [0], (0, 1), 10 ** 299)
THREE = line_machine([(1, 2, 0), (0, -1, 1), (0, 1, (1, 2))])
SWAP = Machine(2, [((0, 0), ((0, 1), (1, 0)), (0, 0)), ((0, -1), ((-1, (1, 2)), (0, 0)), ((1, 2), (1, 3))),
                   ((5, 5), ((1, -1), ((2, 3), (1, 2))), (0, (1, 4)))])
# Pieces with 4,000 carries, or more; all have far more tiles than 4,000.
MANY = line_machine([(0, (4001, 2), (1, 2)), (0, 4001, 0), (0, 4000, 0), (0, -3999, 0), (0, -4000, 0),
                     (0, (999999, 1000), (1, 999))])
OFF_TILES = (None, 0, 1, True, "", "tile", {}, {0, 1}, (), [], [[]], object(), 1.5, (0,) * 5, [None] * 5, (0, 1, 2, 3, 4),
             ((), (), (), (), ()), (0, (), (), (), ()), range(5), "01234", {0: 1, 1: 2, 2: 3, 3: 4, 4: 5})


def some_pieces(seed, many):
    """Pairs (machine, number of a piece)."""
    for machine in some_machines(seed, many):
        for number in range(len(machine.pieces)):
            yield machine, number


def bent(tile, random):
    """Tiles that differ from a tile in one part."""
    number, top, left, bottom, right = tile
    for part, at in ((1, top), (2, left), (3, bottom), (4, right)):
        j = random.randrange(len(at))
        some = [formed(worth(at[j]) + more) for more in (1, -1, 2, Fraction(1, 2), Fraction(1, 7), 1000)]
        some += [None, "0", True, False, [], [at[j]], (at[j],), 1.0, (2, 2), (0, 2), (1, 1), (3, -1), (1, 2, 3)]
        for value in some:
            yield (*tile[:part], (*at[:j], value, *at[j + 1:]), *tile[part + 1:])
        for value in (at[:-1], (*at, 0), at[0], None, "0", {0: at[0]}, (at,)):
            yield (*tile[:part], value, *tile[part + 1:])
    for value in (-1, number + 1, number - 1, 99, None, True, False, "0", (number,), [number], float(number)):
        yield (value, *tile[1:])
    yield from (tile[:4], tile[1:], (*tile, 0), (tile,), (*tile[:2], *tile[3:]))


class CarriesTest(Case):

    def test_examples(self):
        self.check_examples(TILES, {**vars(machines), **vars(tiles)})

    def test_some_pieces(self):
        kinds = set()
        for machine, number in some_pieces(41, 200):
            told = tuple(tuple(map(formed, side)) for side in carries_told(machine.pieces[number]))
            self.assert_same(carries_of(machine, number), told)
            self.assert_same(carries_of(piece=number, machine=machine), told)
            kinds.update((machine.wide, max(map(worth, row)) > 0) for row in machine.pieces[number][1])
        self.assertEqual(kinds, {(1, True), (1, False), (2, True), (2, False)})

    def test_no_number_above_0(self):
        self.assert_same(carries_of(line_machine([(0, 0, 0)]), 0), ((0,),))
        self.assert_same(carries_of(line_machine([(0, 0, (1, 3))]), 0), ((0, (1, 3), (2, 3)),))
        self.assert_same(carries_of(line_machine([(0, (-1, 2), 0)]), 0), ((0, (1, 2), 1),))
        self.assert_same(carries_of(SWAP, 1), ((0, (1, 2), 1, (3, 2)), (0, (1, 3), (2, 3))))

    def test_many(self):
        for number, many in ((1, 4001), (2, 4000), (3, 4000), (4, 4001)):
            carries = carries_told(MANY.pieces[number])[0]
            self.assertEqual(len(carries), many)
            if many > 4000:
                self.assert_raises(("TooMany", "carries", 4000), carries_of, MANY, number)
            else:
                self.assert_same(carries_of(MANY, number), (tuple(map(formed, carries)),))
        for number in (0, 5):
            self.assert_raises(("TooMany", "carries", 4000), carries_of, MANY, number)
        second = Machine(2, [((0, 0), ((0, 1), (4000, 0)), (0, 0)), ((0, 0), ((0, 1), (4001, 0)), (0, 0)),
                             ((0, 0), ((-4001, 1), (0, 0)), (0, 0))])
        self.assertEqual([len(side) for side in carries_of(second, 0)], [1, 4000])
        for number in (1, 2):
            self.assert_raises(("TooMany", "carries", 4000), carries_of, second, number)

    def test_refuses(self):
        for function in (carries_of, tiles_of):
            for value in NO_MACHINES:
                self.assert_raises(("BadMachine", "machine"), function, value, None)
            for value in OFF_PIECES:
                self.assert_raises(("BadNumber", "piece"), function, THREE, value)
                self.assert_raises(("BadNumber", "piece"), function, piece=value, machine=SWAP)


class TilesTest(Case):

    def test_some_pieces(self):
        laid = 0
        for machine, number in some_pieces(42, 50):
            if max(map(len, carries_told(machine.pieces[number]))) > (40 if machine.wide == 1 else 12):
                continue
            told = tiles_told(number, machine.pieces[number])
            if len(told) > 4000:
                self.assert_raises(("TooMany", "tiles", 4000), tiles_of, machine, number)
                continue
            self.assert_same(tiles_of(machine, number), told)
            laid += len(told)
            self.assertEqual(len(set(told)), len(told))
        self.assertGreater(laid, 2000)
        self.assert_same(tiles_of(piece=0, machine=SWAP), tiles_told(0, SWAP.pieces[0]))

    def test_just_as_many(self):
        """By n x there are n (n + 1) tiles: below either top so many carries for each bottom, 0 to n or n to 0."""
        for factor in (1, 2, 7, 20):
            machine = line_machine([(0, factor, 0)])
            self.assertEqual(len(tiles_told(0, machine.pieces[0])), factor * (factor + 1))
            self.assert_same(tiles_of(machine, 0), tiles_told(0, machine.pieces[0]))
        self.assertEqual(len(tiles_of(line_machine([(0, 62, 0)]), 0)), 3906)
        self.assert_raises(("TooMany", "tiles", 4000), tiles_of, line_machine([(0, 63, 0)]), 0)
        # 4 tops with 1000 tiles each, and 4 with 1001 each.
        just = Machine(2, [((0, 0), ((0, 0), (0, 0)), (0, (1, 1000))), ((0, 0), ((0, 0), (0, 0)), ((1, 7), (1, 143)))])
        self.assertEqual(len(tiles_of(just, 0)), 4000)
        self.assertEqual(len(set(tiles_of(just, 0))), 4000)
        self.assert_raises(("TooMany", "tiles", 4000), tiles_of, just, 1)

    def test_carries_come_first(self):
        for number in (1, 4, 5):
            self.assert_raises(("TooMany", "carries", 4000), tiles_of, MANY, number)
        for number in (2, 3):
            self.assert_raises(("TooMany", "tiles", 4000), tiles_of, MANY, number)


class IsTileTest(Case):

    def check(self, told, machine, value):
        self.assertIs(is_tile(machine, value), told, value)

    def test_tiles_and_bent_ones(self):
        random, met = Random(43), set()
        for machine, number in some_pieces(44, 25):
            if max(map(len, carries_told(machine.pieces[number]))) > (40 if machine.wide == 1 else 12):
                continue
            told = tiles_told(number, machine.pieces[number])
            known = set(map(repr, told))
            for tile in random.sample(told, min(3, len(told))):
                self.check(True, machine, tile)
                self.check(True, machine, nested_lists(tile))
                for value in bent(tile, random):
                    other = value[0] if value and len(value) == 5 else None
                    if type(other) is not int or other == number:
                        self.check(False, machine, value)
                        self.check(False, machine, nested_lists(value))
                for more in (1, -1, Fraction(1, 2), Fraction(-1, 3), Fraction(1, 4), 3):
                    value = [*tile[:2], [formed(worth(tile[2][0]) + more), *tile[2][1:]], tile[3],
                             [formed(worth(tile[4][0]) + more), *tile[4][1:]]]
                    told_tile = repr(tuple(fixed(value))) in known
                    self.check(told_tile, machine, value)
                    met.add(told_tile)
        self.assertEqual(met, {True, False})

    def test_of_other_pieces(self):
        """A tile with the number of another piece is one just if this piece has it."""
        for machine in some_machines(45, 40):
            if machine.wide == 2 or len(machine.pieces) < 2:
                continue
            told = [tiles_told(number, piece) for number, piece in enumerate(machine.pieces)]
            for number, found in enumerate(told):
                for tile in found[:6]:
                    for other in range(len(told)):
                        self.check((other, *tile[1:]) in told[other], machine, (other, *tile[1:]))
                    for other in (len(told), -1, number - len(told), True):
                        self.check(False, machine, (other, *tile[1:]))

    def test_values_of_any_kind(self):
        deep = 0
        for _ in range(30):
            deep = [deep]
        for machine in (THREE, SWAP):
            for value in OFF_TILES + (deep, (deep,) * 5, machine, [machine] * 5):
                self.check(False, machine, value)
        self.assertIs(is_tile(value=[0, [1], [0], [3], [-1]], machine=THREE), True)
        for value in NO_MACHINES:
            self.assert_raises(("BadMachine", "machine"), is_tile, value, (0, (1,), (0,), (2,), (0,)))

    def test_carries_one_too_far(self):
        """Carries of THREE's first piece are -1 and 0, of the second one 0 and 1, of the third one -1/2, 0, 1/2."""
        for value, told in (((0, (1,), (0,), (2,), (0,)), True), ((0, (1,), (1,), (2,), (1,)), False),
                            ((0, (1,), (-2,), (2,), (-2,)), False), ((0, (1,), ((-1, 2),), (2,), ((-1, 2),)), False),
                            ((1, (0,), (1,), (1,), (1,)), True), ((1, (0,), (2,), (1,), (2,)), False),
                            ((1, (0,), (-1,), (1,), (-1,)), False), ((2, (0,), ((1, 2),), (0,), (1,)), False),
                            ((2, (0,), (0,), (0,), ((1, 2),)), True), ((2, (0,), ((1, 2),), (1,), (0,)), True),
                            ((2, (0,), (-1,), (0,), ((-1, 2),)), False), ((2, (0,), ((1, 4),), (0,), ((3, 4),)), False),
                            ((2, (0,), (0,), (0,), ((2, 4),)), False)):
            self.check(told, THREE, value)

    def test_bottoms_that_cannot_be(self):
        """Below a top all else may balance with a bottom too low, or too high, for labels of points of the square."""
        met = set()
        for machine, number in some_pieces(46, 30):
            piece = machine.pieces[number]
            if machine.wide == 2 or len(carries_told(piece)[0]) > 40:
                continue
            told = set(tiles_told(number, piece))
            carries = carries_told(piece)[0]
            for top in (piece[0][0], piece[0][0] + 1):
                start = worth(piece[1][0][0]) * top + worth(piece[2][0])
                for left in carries:
                    for right in carries:
                        bottom = start + left - right
                        if bottom.denominator == 1:
                            tile = number, (top,), (formed(left),), (int(bottom),), (formed(right),)
                            self.check(tile in told, machine, tile)
                            met.add(tile in told)
        self.assertEqual(met, {True, False})

    def test_tops(self):
        """By 0 x + 1 a top changes nothing else."""
        for top in range(-2, 9):
            self.check(top in (3, 4), line_machine([(3, 0, 1)]), (0, (top,), (0,), (1,), (0,)))
            self.check(top == 4, line_machine([(3, 1, 0)]), (0, (top,), (0,), (4,), (0,)))

    def test_no_bound(self):
        for number in (1, 4, 5):
            point = ((999, 1000),)
            tile = tile_at(MANY, number, point, 7)
            self.check(True, MANY, tile)
            self.check(False, MANY, (*tile[:3], (tile[3][0] + 1,), tile[4]))
            self.check(False, MANY, (number, tile[1], (5000,), tile[3], tile[4]))


class TileAtTest(Case):

    def test_some_points(self):
        random = Random(47)
        for machine, number in some_pieces(48, 60):
            piece = machine.pieces[number]
            for place in (0, 1, -1, random.randrange(-40, 40), FAR, -FAR):
                point = within(random, piece)
                told = tile_told(number, piece, point, place)
                self.assert_same(tile_at(machine, number, nested_lists(point), place), told)
                self.assert_same(tile_at(place=place, point=point, piece=number, machine=machine), told)
                self.assertIs(is_tile(machine, told), True)
                self.assert_same(tile_at(machine, number, point, place + 1)[2], told[4])

    def test_rows_below_one_another(self):
        flip = line_machine([(0, -1, 1), (0, 1, 0)])
        for place in (-3, 0, 5, FAR):
            for number, back in ((0, 1), (1, 0), (0, 0)):
                above = tile_at(flip, number, [(2, 7)], place)
                below = tile_at(flip, back, machines.led(flip, number, [(2, 7)]), place)
                self.assert_same(above[3], below[1])

    def test_corners(self):
        for machine in (THREE, SWAP):
            for number, piece in enumerate(machine.pieces):
                for more in ((0, 0), (0, 1), (1, 0), (1, 1), ((1, 2), 0)):
                    point = tuple(formed(low + worth(one)) for low, one in zip(piece[0], more))
                    for place in (-1, 0, 1, 2, 10 ** 30):
                        self.assert_same(tile_at(machine, number, point, place), tile_told(number, piece, point, place))

    def test_long_numbers(self):
        point = (formed(Fraction(10 ** 29 + 3, 10 ** 30 - 1)), formed(Fraction(10 ** 29 + 7, 10 ** 30 - 11)))
        for place in (FAR, -FAR, 10 ** 180 - 1):
            self.assert_same(tile_at(SWAP, 0, point, place), tile_told(0, SWAP.pieces[0], point, place))

    def test_refuses(self):
        for value in NO_MACHINES:
            self.assert_raises(("BadMachine", "machine"), tile_at, value, None, None, None)
        for value in OFF_PIECES:
            self.assert_raises(("BadNumber", "piece"), tile_at, THREE, value, None, None)
        for value in (None, 1, True, [], [1, 1], [(2, 4)], [True], "1"):
            self.assert_raises(("BadPoint", "point"), tile_at, THREE, 0, value, None)
        for value in ([], [1], [1, 1, 1], [(2, 4), 1]):
            self.assert_raises(("BadPoint", "point"), tile_at, SWAP, 0, value, None)
        for value in NO_INTEGERS:
            self.assert_raises(("BadNumber", "place"), tile_at, THREE, 0, [3], value)
        beside = Fraction(1, 10 ** 40)
        for point in ([3], [0], [formed(1 - beside)], [formed(2 + beside)]):
            self.assert_raises(("Misfit", "point"), tile_at, THREE, 0, point, 0)
        for point in ([formed(-beside), 0], [0, formed(1 + beside)], [2, 0], [0, -1]):
            self.assert_raises(("Misfit", "point"), tile_at, place=0, point=point, piece=0, machine=SWAP)
