"""Floors [9]."""

from fractions import Fraction
from random import Random

from timesfloor import check_floors, floors, machines, tiles
from timesfloor.check_floors import shows_block
from timesfloor.floors import Clash, Fits, block_of, is_round, judged_block, offs_of
from timesfloor.machines import Machine, line_machine
from timesfloor.papers import Denial, Paper, fixed
from timesfloor.tiles import is_tile, tile_at

from tests.examples_floors import CHECK_FLOORS, FLOORS, TILES
from tests.helpers import Case, namesakes
from tests.machines_made import formed, is_held, nested_lists, some_machines, where_led, worth
from tests.test_rows import FAR, NO_INTEGERS
from tests.test_tiles import NO_MACHINES, OFF_TILES
from tests.tiles_told import tile_told, within

FLIP = line_machine([(0, -1, 1), (0, 1, 0), (3, (1, 2), 0)])
SWAP = Machine(2, [((0, 0), ((0, 1), (1, 0)), (0, 0)), ((0, 0), ((1, 0), (0, (1, 2))), (0, (1, 2)))])
PAIR = line_machine([(1, 2, 0), (2, (2, 3), 0)])
OFF_BLOCKS = (None, 0, True, "block", {}, (), [], [[]], [[], []], [None], [[1], None], [[1], []], [[1], [1, 2]],
              [[1, 2], [1]], [{1}], ["a"], "ab", [[1]] * 61, [[1] * 401], {0: [1]}, ([1], "1"), [{0: 1}], [range(2)])


def some_blocks(seed, many, wide=3):
    """Machines with ways, a point that goes by it, a first place, and the block by definition."""
    random = Random(seed)
    found = []
    for machine in some_machines(seed, many):
        first_piece = random.randrange(len(machine.pieces))
        point = within(random, machine.pieces[first_piece])
        way, points = [], [point]
        while len(way) < 4:
            held = [number for number, piece in enumerate(machine.pieces) if is_held(piece, points[-1])]
            if not held:
                break
            way.append(random.choice(held))
            points.append(where_led(machine.pieces[way[-1]], points[-1]))
        first = random.choice((0, 1, -5, 40, FAR))
        block = tuple(tuple(tile_told(number, machine.pieces[number], here, first + more) for more in range(wide))
                      for number, here in zip(way, points))
        found.append((machine, way, points, first, block))
    return found


def clashes(machine, block):
    """All triples (row, place, part) that are so, in the order in which they are told."""
    found = []
    good = [[is_tile(machine, item) for item in row] for row in block]
    for down, row in enumerate(block):
        for place, tile in enumerate(row):
            if not good[down][place]:
                found.append((down, place, "tile"))
                continue
            if place and good[down][place - 1] and (row[place - 1][0] != tile[0]
                                                    or fixed(row[place - 1][4]) != fixed(tile[2])):
                found.append((down, place, "left"))
            if down and good[down - 1][place] and fixed(block[down - 1][place][3]) != fixed(tile[1]):
                found.append((down, place, "top"))
    return found


def bent_blocks(random, machine, block):
    """Blocks with one or more tiles of another kind."""
    for _ in range(12):
        rows = [list(row) for row in block]
        for _ in range(random.choice((1, 1, 2, 3))):
            down, place = random.randrange(len(rows)), random.randrange(len(rows[0]))
            number = random.randrange(len(machine.pieces))
            piece = machine.pieces[number]
            tile = tile_told(number, piece, within(random, piece), random.randrange(-9, 9))
            other = random.choice(random.choice(rows))
            rows[down][place] = random.choice((tile, tile, nested_lists(tile), other, None, rows[down][place][:4],
                                               (*tile[:4], (9999,) * machine.wide))) if rows[down][place] else tile
        yield rows


class BlockOfTest(Case):

    def test_examples(self):
        names = {**vars(machines), **vars(tiles), **vars(floors), **vars(check_floors)}
        for text in (TILES, FLOORS, CHECK_FLOORS):
            self.check_examples(text, names)

    def test_some_points(self):
        rows = set()
        for machine, way, points, first, block in some_blocks(51, 120):
            self.assert_same(block_of(machine, nested_lists(points[0]), tuple(way), first, 3), block)
            self.assert_same(block_of(many=2, first=first, way=way, point=points[0], machine=machine),
                             tuple(row[:2] for row in block))
            self.assert_same(block_of(machine, points[0], way, first, 1), tuple(row[:1] for row in block))
            rows.add(len(way))
        self.assertLessEqual({1, 2, 4}, rows)

    def test_many(self):
        told = block_of(FLIP, [(1, 3)], [0, 1] * 5, -FAR, 400)
        self.assertEqual([len(told), *{len(row) for row in told}], [10, 400])
        self.assert_same(told[7][399], tile_at(FLIP, 1, [(1, 3)], 399 - FAR))
        told = block_of(FLIP, [(1, 3)], [0] * 400, 5, 10)
        self.assertEqual([len(told), *{len(row) for row in told}], [400, 10])
        self.assert_same(told[399][9], tile_at(FLIP, 0, [(2, 3)], 14))
        for way, many in (([0] * 400, 11), ([0] * 11, 400), ([1] * 11, 364)):
            self.assert_raises(("TooMany", "tiles", 4000), block_of, FLIP, [(1, 3)], way, 0, many)
        self.assertEqual(len(block_of(FLIP, [(1, 3)], [1] * 11, 0, 363)), 11)

    def test_refuses(self):
        for value in NO_MACHINES:
            self.assert_raises(("BadMachine", "machine"), block_of, value, None, None, None, None)
        for value in (None, [], [1, 1], [(2, 4)], [True], "1"):
            self.assert_raises(("BadPoint", "point"), block_of, FLIP, value, None, None, None)
        for value in ([], None, [3], [True], [-1], [0] * 401):
            self.assert_raises(("BadWay", "way"), block_of, FLIP, [9], value, None, None)
        for value in NO_INTEGERS:
            self.assert_raises(("BadNumber", "first"), block_of, FLIP, [9], [0], value, None)
            self.assert_raises(("BadNumber", "many"), block_of, FLIP, [9], [0], 0, value)
        for value in (0, 401, -1, 10 ** 299):
            self.assert_raises(("BadNumber", "many"), block_of, many=value, machine=FLIP, point=[9], way=[0], first=0)
        for point, way in (([9], [0]), ([0], [0, 2]), ([0], [0, 1] * 199 + [2]), ([0], [0, 1] * 199 + [0, 2])):
            self.assert_raises(("Misfit", "way"), block_of, FLIP, point, way, 0, 400)


class JudgedBlockTest(Case):

    def test_blocks_of_runs(self):
        for machine, way, points, first, block in some_blocks(52, 100, 5):
            told = judged_block(machine, block)
            self.assertIsInstance(told, Fits)
            averages = [tuple(formed(Fraction(sum(column), 5)) for column in zip(*[tile[1] for tile in row]))
                        for row in block]
            averages += [tuple(formed(Fraction(sum(column), 5)) for column in zip(*[tile[3] for tile in block[-1]]))]
            self.assert_same(told.averages, tuple(averages))
            offs = tuple(tuple(formed((worth(behind) - worth(ahead)) / 5) for ahead, behind in zip(row[0][2], row[-1][4]))
                         for row in block)
            self.assert_same(offs_of(machine, nested_lists(block)), offs)
            self.assertTrue(judged_block(block=nested_lists(block), machine=machine) == told)
            for row, above, below, off in zip(block, averages, averages[1:], offs):
                led = where_led(machine.pieces[row[0][0]], above)
                self.assert_same(led, tuple(formed(worth(one) + worth(other)) for one, other in zip(below, off)))

    def test_rounds(self):
        """As wide as a multiple of what all numbers are whole with, the rows come round; down they do with the run."""
        met = set()
        for machine, way, points, first, _ in some_blocks(53, 300):
            wide = 1
            while any(worth(number) * wide % 1 for here in points for number in here):
                wide += 1
            if wide > 100:
                continue
            for many in (wide, 2 * wide, wide + 1):
                block = block_of(machine, points[0], way, first, many)
                told = is_round(machine, block)
                sides = all(row[0][2] == row[-1][4] for row in block)
                down = [tile[1] for tile in block[0]] == [tile[3] for tile in block[-1]]
                self.assertIs(told, sides and down)
                self.assertIs(is_round(block=nested_lists(block), machine=machine), told)
                if many != wide + 1:
                    self.assertIs(told, points[0] == points[-1])
                    self.assertTrue(sides)
                met.add((sides, down))
        self.assertEqual(met, {(True, True), (True, False), (False, True), (False, False)})

    def test_laid_tile_by_tile(self):
        """Tiles that any point may have had, laid side by side as they go on."""
        tile = (0, (1,), (-1,), (2,), (-1,))
        other = (0, (2,), (-1,), (4,), (-1,))
        self.assert_same(judged_block(PAIR, [[tile]]).averages, ((1,), (2,)))
        self.assert_same(judged_block(PAIR, [[tile, other], [other, (0, (2,), (-1,), (4,), (-1,))]]).parts, (1, 1, "top"))
        self.assert_same(judged_block(PAIR, [[tile, other, tile]]).averages, (((4, 3),), ((8, 3),)))
        self.assert_same(offs_of(PAIR, [[tile, other, tile]]), ((0,),))
        self.assert_same(is_round(PAIR, [[tile, other, tile]]), False)
        self.assert_same(is_round(FLIP, [[(1, (1,), (0,), (1,), (0,))]] * 60), True)
        self.assert_same(is_round(FLIP, [[(1, (1,), (0,), (1,), (0,))] * 400] * 2), True)

    def test_bent_blocks(self):
        random, met = Random(54), {}
        for machine, _, _, _, block in some_blocks(55, 60):
            for rows in bent_blocks(random, machine, block):
                so = clashes(machine, rows)
                told = judged_block(machine, rows)
                if so:
                    self.assertIsInstance(told, Clash)
                    self.assert_same(told.parts, so[0])
                    met[so[0][2]] = met.get(so[0][2], 0) + 1
                    for function in (offs_of, is_round):
                        self.assert_raises(("Misfit", "block"), function, machine, rows)
                else:
                    self.assertIsInstance(told, Fits)
                for down, place, part in so:
                    self.assertIs(shows_block(machine, rows, Clash(down, place, part)), True)
                for down in range(len(rows)):
                    for place in range(len(rows[0])):
                        for part in ("tile", "left", "top"):
                            self.assertIs(shows_block(machine, rows, Clash(down, place, part)), (down, place, part) in so)
                self.assertIs(shows_block(value=told, block=rows, machine=machine), True)
        self.assertGreater(min(met.values()), 5)
        self.assertEqual(set(met), {"tile", "left", "top"})

    def test_several_parts_at_once(self):
        still, more = (1, (0,), (0,), (0,), (0,)), (1, (1,), (0,), (1,), (0,))
        turned = (0, (0,), (0,), (0,), (1,))
        self.assert_same(judged_block(FLIP, [[still, still], [still, turned]]).parts, (1, 1, "left"))
        self.assert_same(judged_block(FLIP, [[more, more], [more, turned]]).parts, (1, 1, "left"))
        self.assert_same(judged_block(FLIP, [[more, more], [still, turned]]).parts, (1, 0, "top"))
        self.assert_same(judged_block(FLIP, [[more, None], [still, None]]).parts, (0, 1, "tile"))
        self.assert_same(judged_block(FLIP, [[turned, still]]).parts, (0, 1, "left"))
        self.assert_same(judged_block(FLIP, [[turned, turned]]).parts, (0, 1, "left"))

    def test_items_of_any_kind(self):
        still = (1, (0,), (0,), (0,), (0,))
        for item in OFF_TILES:
            self.assert_same(judged_block(FLIP, [[still, item]]).parts, (0, 1, "tile"))
            self.assert_same(judged_block(FLIP, ([item, item], [item, None])).parts, (0, 0, "tile"))
            self.assert_raises(("Misfit", "block"), offs_of, FLIP, [[still], [item]])
            self.assert_raises(("Misfit", "block"), is_round, block=[[still], [item]], machine=FLIP)
            self.assertIs(shows_block(FLIP, [[item]], Clash(0, 0, "tile")), True)
            self.assertIs(shows_block(FLIP, [[item]], Fits([[0], [0]])), False)

    def test_sizes(self):
        still = (1, (0,), (0,), (0,), (0,))
        for rows, places in ((1, 1), (60, 1), (1, 400), (10, 400), (60, 66)):
            told = judged_block(FLIP, [[still] * places] * rows)
            self.assert_same(told.averages, ((0,),) * (rows + 1))
            self.assert_same(offs_of(FLIP, [[still] * places] * rows), ((0,),) * rows)

    def test_refuses(self):
        for function in (judged_block, offs_of, is_round):
            for value in NO_MACHINES:
                self.assert_raises(("BadMachine", "machine"), function, value, None)
            for value in OFF_BLOCKS:
                self.assert_raises(("BadBlock", "block"), function, FLIP, value)
            self.assert_raises(("BadBlock", "block"), function, block=[], machine=FLIP)


class ShowsBlockTest(Case):

    def check(self, told, block, value, machine=FLIP):
        self.assertIs(shows_block(machine, block, value), told, value.parts if isinstance(value, Paper) else value)

    def test_fits(self):
        for machine, _, _, _, block in some_blocks(56, 40):
            told = judged_block(machine, block)
            averages = told.averages
            for value in (told, Fits(nested_lists(averages)), Fits(averages=averages)):
                self.check(True, block, value, machine)
                self.check(True, nested_lists(block), value, machine)
            off = [averages[:-1], averages[1:], (*averages, averages[0]), averages[::-1] + averages, (), None, 0, "fits",
                   averages[0], (averages,), {}]
            for at in range(len(averages)):
                for item in ((), None, True, 0, averages[at][0], [averages[at]], (*averages[at], 0), averages[at][1:],
                             tuple(formed(worth(number) + Fraction(1, 7)) for number in averages[at]),
                             tuple(float(worth(number)) for number in averages[at]), tuple(map(str, averages[at]))):
                    off.append((*averages[:at], item, *averages[at + 1:]))
            for value in off:
                self.check(False, block, Fits(value), machine)
            for value in namesakes(told) + [None, True, "fits", averages, ("fits", averages), [told], object(),
                                            Clash(0, 0, "tile"), Clash(0, 0, "left"), Clash(0, 0, "top"), Fits]:
                self.check(False, block, value, machine)

    def test_truths(self):
        still, more = (1, (0,), (0,), (0,), (0,)), (1, (1,), (0,), (1,), (0,))
        self.check(True, [[still], [still]], Fits([[0], [0], [0]]))
        self.check(False, [[still], [still]], Fits([[0], [False], [0]]))
        self.check(True, [[more]], Fits([[1], [1]]))
        self.check(False, [[more]], Fits([[1], [True]]))
        self.check(False, [[more]], Fits([[1], [(1, 1)]]))
        self.check(True, [[still, more]], Fits([[(1, 2)], [[1, 2]]]))
        self.check(False, [[still, more]], Fits([[(1, 2)], [(2, 4)]]))

    def test_clashes(self):
        still, more = (1, (0,), (0,), (0,), (0,)), (1, (1,), (0,), (1,), (0,))
        turned = (0, (0,), (0,), (0,), (1,))
        block = [[still, still, turned], [still, more, None], [more, more, still]]
        right = [(0, 2, "left"), (1, 1, "top"), (1, 2, "tile"), (2, 0, "top")]
        self.assertEqual(clashes(FLIP, block), right)
        for row, place in ((-1, 0), (0, -1), (-1, -1), (1, 0), (0, 1)):
            self.check(False, [[None]], Clash(row, place, "tile"))
        for down in range(-1, 4):
            for place in range(-1, 4):
                for part in ("tile", "left", "top"):
                    self.check((down, place, part) in right, block, Clash(down, place, part))
        for row, place, part in ((True, 1, "top"), (1, True, "top"), (1.0, 1, "top"), (1, "1", "top"), (None, None, None),
                                 (1, 1, ["top"]), (1, 1, "Top"), (1, 1, b"top"), (1, 1, 2), ([1], 1, "top"), (1, 1, None),
                                 (1, 2, ""), (1, 2, "piece"), (1, (1,), "top"), (False, 2, "left"), (-2, 1, "top"),
                                 (10 ** 299, 1, "top"), (2, False, "top")):
            self.check(False, block, Clash(row, place, part))
        for value in (Fits([[0], [(1, 3)], [(2, 3)], [0]]), None, (0, 2, "left"), *namesakes(Clash(0, 2, "left")),
                      Paper("clash", 0, 2, "left"), Denial("clash", 0, 2, "left")):
            self.check(False, block, value)
        for value in namesakes(Clash(0, 2, "left")):
            self.assertIs(value == Clash(0, 2, "left"), False)

    def test_refuses(self):
        for value in NO_MACHINES:
            self.assert_raises(("BadMachine", "machine"), shows_block, value, None, None)
        for value in OFF_BLOCKS:
            self.assert_raises(("BadBlock", "block"), shows_block, FLIP, value, None)
            self.assert_raises(("BadBlock", "block"), shows_block, value=Clash(0, 0, "tile"), block=value, machine=SWAP)
