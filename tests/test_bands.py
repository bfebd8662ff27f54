"""Bands [12]."""

from itertools import product
from math import prod
from random import Random

from timesfloor import bands, machines
from timesfloor.bands import Band, Gap, columns_of, judged_band, numbers_of
from timesfloor.floors import block_of
from timesfloor.machines import Machine, line_machine
from timesfloor.runs import Goes, judged_run
from timesfloor.stretches import stretch_of
from timesfloor.tiles import carries_of, tiles_of

from tests.examples_judged import BANDS
from tests.helpers import Case, namesakes
from tests.machines_made import nested_lists, some_piece, worth
from tests.test_tiles import MANY, NO_MACHINES, OFF_TILES

TWICE = line_machine([(1, 2, 0)])
MORE = line_machine([(0, 1, (1, 2)), (0, 1, 0), (0, 1, (1, 3)), (0, -1, 1)])
SWAP = Machine(2, [((0, 0), ((0, 1), (1, 0)), (0, 0)), ((0, 0), ((1, 0), (0, 1)), (0, (1, 2)))])
# 4 tops with 1000 tiles each, 4 with 1001 each, and a piece that leads all to all of them.
JUST = Machine(2, [((0, 0), ((0, 0), (0, 0)), (0, (1, 1000))), ((0, 0), ((0, 0), (0, 0)), ((1, 7), (1, 143))),
                   ((0, 0), ((1, 0), (0, 1)), (0, 0))])


def columns_laid(machine, way):
    """All columns of a way, in their order, laid from the tiles of the pieces."""
    rows = [tiles_of(machine, number) for number in way]
    columns = [(tile,) for tile in rows[0]]
    for row in rows[1:]:
        columns = [(*column, tile) for column in columns for tile in row if tile[1] == column[-1][3]]
    return tuple(columns)


def sides(column):
    return [tile[2] for tile in column], [tile[4] for tile in column]


def widest(columns):
    """How many columns can lie side by side; None if there is no end."""
    ends = [(repr(left), repr(right)) for left, right in map(sides, columns)]
    reached, wide = {left for left, _ in ends}, 0
    while reached:
        reached = {right for left, right in ends if left in reached}
        wide += bool(reached)
        if wide > len(ends):
            return None
    return wide


def tame_piece(random):
    """A piece of width 2 that often leads its square near to itself."""
    rows = tuple(tuple(random.choice((0, 0, 1, -1, (1, 2))) for _ in range(2)) for _ in range(2))
    return (0, random.choice((0, 0, -1))), rows, tuple(random.choice((0, 0, 1, (1, 2))) for _ in range(2))


def small_ways(seed, many):
    """Machines with a way of few columns."""
    random, found = Random(seed), []
    while len(found) < many:
        wide = random.choice((1, 2))
        pieces = [some_piece(random, 1, 2) if wide == 1 else tame_piece(random) for _ in range(random.randrange(1, 4))]
        machine = Machine(wide, list(dict.fromkeys(pieces)))
        way = [random.randrange(len(machine.pieces)) for _ in range(random.randrange(1, 4))]
        if all(prod(map(len, carries_of(machine, number))) < 10 for number in way):
            found.append((machine, way))
    return found


class ColumnsTest(Case):

    def test_examples(self):
        self.check_examples(BANDS, {**vars(machines), **vars(bands)})

    def test_some_ways(self):
        counts = set()
        for machine, way in small_ways(91, 150):
            told = columns_laid(machine, way)
            counts.add((machine.wide, len(way), bool(told)))
            if len(told) > 4000:
                self.assert_raises(("TooMany", "columns", 4000), columns_of, machine, way)
                continue
            self.assert_same(columns_of(machine, way), told)
            self.assert_same(columns_of(way=tuple(way), machine=machine), told)
        self.assertLessEqual({(1, 1, True), (2, 1, True), (1, 3, True), (1, 3, False), (2, 2, True)}, counts)

    def test_more_than_one_piece(self):
        for way in product(range(4), repeat=3):
            self.assert_same(columns_of(MORE, way), columns_laid(MORE, way))
        for way in product(range(2), repeat=2):
            self.assert_same(columns_of(SWAP, way), columns_laid(SWAP, way))

    def test_just_as_many(self):
        self.assertEqual(len(columns_of(JUST, [0])), 4000)
        self.assert_raises(("TooMany", "columns", 4000), columns_of, JUST, [1])
        self.assert_same(columns_of(JUST, [2, 2, 0]), columns_laid(JUST, [2, 2, 0]))
        self.assertEqual(len(columns_of(JUST, [2, 2, 0])), 4000)
        self.assert_raises(("TooMany", "columns", 4000), columns_of, JUST, [2, 2, 1])
        for function in (columns_of, judged_band):
            self.assert_raises(("TooMany", "columns", 4000), function, way=[1, 2], machine=JUST)
            self.assert_raises(("TooMany", "columns", 4000), function, MORE, [0] * 400)

    def test_pieces_with_many_tiles(self):
        """Of a piece whose tiles are too many to be told there may be few columns, or none."""
        machine = line_machine([(0, 100, 0), (70, 1, 0), (1000, 1, 0), (0, 1, 0)])
        self.assert_raises(("TooMany", "tiles", 4000), tiles_of, machine, 0)
        self.assert_raises(("TooMany", "columns", 4000), columns_of, machine, [0])
        self.assertEqual(len(columns_of(machine, [0, 1])), 200)
        self.assert_same(columns_of(machine, [0, 2]), ())
        self.assertTrue(judged_band(machine, [0, 2]) == Gap(1))
        told = judged_band(machine, [3, 0, 1])
        self.assertEqual(told.word, "band")
        for point in numbers_of(machine, told.columns)[2:]:
            self.assertTrue(70 <= worth(point[0]) <= 71)

    def test_one_top_alone(self):
        """By the first piece just the top 1 leads to a top of another one; below it there is one half of its tiles."""
        machine = line_machine([(0, 1, 100), (101, 88, 0), (101, 89, 0), (101, 1, 0)])
        self.assertEqual(len(columns_of(machine, [0, 1])), 88 * 89 // 2)
        self.assert_raises(("TooMany", "columns", 4000), columns_of, machine, [0, 2])
        self.assert_same(columns_of(machine, [0, 3]), (((0, (1,), (0,), (101,), (0,)), (3, (101,), (0,), (101,), (0,))),))
        told = judged_band(machine, [0, 3])
        self.assertEqual(told.word, "band")
        self.assert_same(numbers_of(machine, told.columns), ((1,), (101,), (101,)))

    def test_carries_come_first(self):
        for function in (columns_of, judged_band):
            for way in ([1], [2, 1], [1, 2], [2, 2, 2, 4], [2] * 399 + [5]):
                self.assert_raises(("TooMany", "carries", 4000), function, MANY, way)
            for way in ([2], [3], [2, 3, 2]):
                self.assert_raises(("TooMany", "columns", 4000), function, MANY, way)
        # No column at all, but too many carries.
        none = line_machine([(0, 4001, 0), (-9, 1, 0)])
        for way in ([1, 0], [0, 1]):
            self.assert_raises(("TooMany", "carries", 4000), columns_of, none, way)

    def test_long_ways(self):
        still = line_machine([(0, 1, 0), (0, 62, 0)])
        told = columns_of(still, [0] * 400)
        self.assert_same(told, tuple(((0, (top,), (0,), (top,), (0,)),) * 400 for top in (0, 1)))
        told = columns_of(still, [0] * 399 + [1])
        self.assertEqual(len(told), 3906)
        self.assert_same([column[-1] for column in told], list(tiles_of(still, 1)))
        self.assertEqual({column[:399] for column in told}, {((0, (top,), (0,), (top,), (0,)),) * 399 for top in (0, 1)})
        self.assertEqual(judged_band(still, [0] * 399 + [1]).word, "band")

    def test_refuses(self):
        for function in (columns_of, judged_band):
            for value in NO_MACHINES:
                self.assert_raises(("BadMachine", "machine"), function, value, None)
            for machine in (TWICE, SWAP):
                for value in ([], None, [2], [True], [-1], [0] * 401, "0", {0: 0}, [(0,)], [0, None]):
                    self.assert_raises(("BadWay", "way"), function, machine, value)


class JudgedBandTest(Case):

    def check_round(self, machine, way, columns):
        """Whether these are columns of the way, each ahead of the next one; their averages are the points of a run."""
        self.assertTrue(1 <= len(columns) <= 4000)
        known = set(columns_of(machine, way))
        for one, other in zip(columns, columns[1:] + columns[:1]):
            self.assertIn(one, known)
            self.assertEqual(sides(one)[1], sides(other)[0])
        points = numbers_of(machine, columns)
        self.assertTrue(judged_run(machine, points[0], way) == Goes(points))

    def test_some_ways(self):
        words = set()
        for machine, way in small_ways(92, 250):
            columns = columns_laid(machine, way)
            if len(columns) > 4000:
                continue
            told, wide = judged_band(machine, way), widest(columns)
            self.assertTrue(judged_band(way=tuple(way), machine=machine) == told)
            if wide is None:
                self.assertIsInstance(told, Band)
                self.assertIs(bool(told), True)
                self.check_round(machine, way, told.columns)
            else:
                self.assert_same((told.word, told.parts, bool(told)), ("gap", (wide + 1,), False))
            if machine.wide == 1:
                self.assertIs(stretch_of(machine, way) is not None, wide is None)
            words.add((told.word, machine.wide, len(way)))
        self.assertLessEqual({("band", 1, 3), ("gap", 1, 3), ("band", 2, 2), ("gap", 2, 2)}, words)

    def test_gaps(self):
        half = [0] * 8
        for many, wide in ((4, 5), (5, 3), (6, 3)):
            self.assertTrue(judged_band(MORE, half[:many]) == Gap(wide))
            self.assertEqual(widest(columns_laid(MORE, half[:many])), wide - 1)
        self.assertTrue(judged_band(TWICE, [0] * 3) == Gap(1))
        self.assertTrue(judged_band(TWICE, [0] * 400) == Gap(1))
        for many in range(1, 4):
            self.assertTrue(judged_band(MORE, [0] * many))

    def test_long_ways(self):
        for way in ([1] * 400, [3, 1] * 200):
            if len(set(way)) == 1:
                self.check_round(MORE, way, judged_band(MORE, way).columns)
            else:
                self.assert_raises(("TooMany", "columns", 4000), judged_band, MORE, way)
        told = judged_band(SWAP, [0] * 400)
        self.check_round(SWAP, [0] * 400, told.columns)


class NumbersTest(Case):

    def rounds(self):
        """A machine with rounds of columns: those of 1/2, 1/3, 2/3 by x and 1 - x, and of 1/2 by x + 1/2."""
        for point, way, wide in (([(1, 2)], [1, 3, 1], 2), ([(1, 3)], [3, 3], 3), ([(2, 7)], [3, 1], 7), ([0], [1], 1),
                                 ([(1, 3)], [2, 2], 3), ([(1, 2)], [0], 2), ([0], [0, 0], 2)):
            yield point, way, list(zip(*block_of(MORE, point, way, 5, wide)))

    def test_rounds(self):
        for point, way, columns in self.rounds():
            points = judged_run(MORE, point, way).points
            for value in (columns, tuple(columns), nested_lists(columns), columns * 2, columns[1:] + columns[:1],
                          columns * (4000 // len(columns))):
                self.assert_same(numbers_of(MORE, value), points)
            self.assert_same(numbers_of(columns=columns, machine=MORE), points)
        swap = list(zip(*block_of(SWAP, [(1, 2), 1], [0, 0], 0, 2)))
        self.assert_same(numbers_of(SWAP, swap), (((1, 2), 1), (1, (1, 2)), ((1, 2), 1)))

    def test_how_many(self):
        column = ((1, (1,), (0,), (1,), (0,)), (1, (1,), (0,), (1,), (0,)))
        self.assert_same(numbers_of(MORE, [column] * 4000), ((1,), (1,), (1,)))
        self.assert_same(numbers_of(MORE, [column[:1] * 400]), ((1,),) * 401)
        for value in ([column] * 4001, [column[:1] * 401], [], (), [()], [[], []]):
            self.assert_raises(("BadBlock", "columns"), numbers_of, MORE, value)

    def test_what_is_no_round(self):
        for point, way, columns in self.rounds():
            rows = list(map(list, columns))
            off = [columns[:-1] + [columns[-1][:-1]], columns + [columns[0][:1] * 2 + columns[0]], columns + [None],
                   columns + [()], [columns], [columns[0], columns[0][0]], columns[0][0]]
            for at in range(len(way)):
                for item in OFF_TILES + ((*columns[0][at][:4], (7,)), (*columns[0][at][:4], (True,)),
                                         (0, *columns[0][at][1:]) if way[at] else (1, *columns[0][at][1:])):
                    off.append([rows[0][:at] + [item] + rows[0][at + 1:]] + rows[1:])
            for value in off:
                self.assert_raises(("BadBlock", "columns"), numbers_of, MORE, value)
        still, more = (1, (0,), (0,), (0,), (0,)), (1, (1,), (0,), (1,), (0,))
        flat, tall = (3, (0,), (0,), (0,), (1,)), (3, (1,), (1,), (1,), (0,))
        self.assert_same(numbers_of(MORE, [[flat], [tall]]), (((1, 2),), ((1, 2),)))
        self.assert_same(numbers_of(MORE, [[flat], [tall], [flat], [tall], [(3, (0,), (0,), (1,), (0,))]]), (((2, 5),), ((3, 5),)))
        for value in ([[flat]], [[flat], [flat]], [[tall], [flat], [flat]], [[flat], [tall], [still]], [[still], [flat], [tall]],
                      [[still, more]], [[still, still], [more, still]], [[still], [more, more]], [[flat, still], [tall, still]],
                      [[still, more], [more, still]], [[still], [(3, (0,), (0,), (1,), (0,))]]):
            self.assert_raises(("BadBlock", "columns"), numbers_of, MORE, value)

    def test_refuses(self):
        for value in NO_MACHINES:
            self.assert_raises(("BadMachine", "machine"), numbers_of, value, None)
        for value in (None, 0, True, "columns", {}, {0: [1]}, [None], [[None]], ["a"], "ab", range(3), object(), {1}):
            self.assert_raises(("BadBlock", "columns"), numbers_of, MORE, value)
        self.assert_raises(("BadBlock", "columns"), numbers_of, columns=None, machine=MORE)
        self.assert_raises(("BadBlock", "columns"), numbers_of, SWAP, [[(1, (0,), (0,), (0,), (0,))]])

    def test_papers(self):
        for paper in (Band([[(1, (0,), (0,), (0,), (0,))]]), Gap(2)):
            for value in namesakes(paper):
                self.assertIs(value == paper, False)
        self.assertTrue(Gap(2) == Gap(wide=2))
        self.assert_same(Band([[1], [[2]]]).columns, ((1,), ((2,),)))
