"""Checking papers on rounds [13]."""

from random import Random

from timesfloor import bands, check_rounds, machines, rounds
from timesfloor.bands import columns_of
from timesfloor.check_rounds import shows_round
from timesfloor.errors import TileError
from timesfloor.floors import block_of
from timesfloor.machines import line_machine
from timesfloor.papers import Denial, Paper, fixed
from timesfloor.rounds import Round, Straight, judged_round, round_at
from timesfloor.tiles import is_tile, tiles_of

from tests.examples_rounds import CHECK_ROUNDS, ROUNDS
from tests.helpers import Case, namesakes
from tests.machines_made import nested_lists
from tests.test_bands import JUST, MORE
from tests.test_rounds import FLIP, OFF_WIDES, PLANE, few_ways, points_wide
from tests.test_runs import OFF_WAYS
from tests.test_tiles import MANY, NO_MACHINES, OFF_TILES

OFF_VALUES = (None, True, False, 0, 1, 2, "round", "straight", (2,), [], Round, Straight, object(), ("straight", 2),
              Paper("straight", 2), Denial("straight", 2), Paper("round", 2, ()))


def is_round_told(machine, way, wide, block):
    """Whether lists of tiles make a round by the way."""
    if [len(row) for row in block] != [wide] * len(way) or not all(is_tile(machine, tile) for row in block for tile in row):
        return False
    rows = fixed(block)
    return (all(tile[0] == number for row, number in zip(rows, way) for tile in row)
            and all(row[at - 1][4] == row[at][2] for row in rows for at in range(wide))
            and all(rows[down - 1][at][3] == rows[down][at][1] for down in range(len(way)) for at in range(wide)))


class ShowsRoundTest(Case):

    def check(self, told, machine, way, wide, value):
        self.assertIs(shows_round(machine, way, wide, value), told, value.parts if isinstance(value, Paper) else value)

    def test_examples(self):
        names = {**vars(machines), **vars(bands), **vars(rounds), **vars(check_rounds)}
        for text in (ROUNDS, CHECK_ROUNDS):
            self.check_examples(text, names)

    def test_what_is_told(self):
        random, met = Random(121), set()
        for machine, way in few_ways(122, 80):
            try:
                columns_of(machine, way)
            except TileError:
                continue
            for wide in (1, 2, 3, random.randrange(4, 9)):
                told = judged_round(machine, way, wide)
                self.check(True, machine, way, wide, told)
                self.assertIs(shows_round(value=told, way=tuple(way), wide=wide, machine=machine), True)
                self.check(not told, machine, way, wide, Straight(wide))
                for point in points_wide(machine, way, wide)[:3]:
                    self.check(True, machine, way, wide, Round(wide, block_of(machine, point, way, random.randrange(-9, 9), wide)))
                met.add((machine.wide, bool(told)))
        self.assertEqual(len(met), 4)

    def rounds(self):
        """Blocks that come round, with their ways."""
        for machine, point, way in ((FLIP, [(1, 2)], [0]), (FLIP, [(1, 3)], [0, 0]), (FLIP, [(1, 3)], [0, 1, 0]), (FLIP, [1], [1, 1]),
                                    (FLIP, [(1, 3)], [6, 7]), (PLANE, [(1, 3), (1, 2)], [1, 2, 1]), (PLANE, [(1, 2), 1], [0] * 4)):
            told = round_at(machine, point, way)
            yield machine, way, told.wide, [list(row) for row in told.block]

    def test_other_blocks(self):
        """Turned on, doubled, of other places, with lists for tuples."""
        for machine, way, wide, block in self.rounds():
            for value in (block, tuple(block), nested_lists(block), [row[1:] + row[:1] for row in block],
                          [row[-1:] + row[:-1] for row in block]):
                self.check(True, machine, way, wide, Round(wide, value))
                self.check(True, machine, tuple(way), wide, Round(block=value, wide=wide))
            for many in (2, 3):
                self.check(True, machine, way, many * wide, Round(many * wide, [row * many for row in block]))
                self.check(True, machine, way * many, wide, Round(wide, block * many))
                self.check(False, machine, way, wide, Round(wide, [row * many for row in block]))
                self.check(False, machine, way, many * wide, Round(many * wide, block))
                self.check(False, machine, way, many * wide, Round(wide, [row * many for row in block]))
                self.check(False, machine, way, wide, Round(wide, block * many))
                self.check(False, machine, way * many, wide, Round(wide, block))
            self.check(True, machine, way[1:] + way[:1], wide, Round(wide, block[1:] + block[:1]))

    def test_largest(self):
        told = round_at(FLIP, [(1, 60)], [1] * 60)
        self.check(True, FLIP, [1] * 60, 60, told)
        self.check(False, FLIP, [1] * 59, 60, told)
        self.check(False, FLIP, [1] * 59 + [6], 60, told)
        rows = [list(row) for row in told.block]
        rows[59][59] = (1, (0,), (0,), (1,), (0,))
        self.check(False, FLIP, [1] * 60, 60, Round(60, rows))

    def test_changed_blocks(self):
        random, met = Random(123), {True: 0, False: 0}
        for machine, way, wide, block in self.rounds():
            tiles = [tile for number in set(way) for tile in tiles_of(machine, number)] + [None]
            for _ in range(60):
                rows = [list(row) for row in block]
                for _ in range(random.choice((1, 1, 2))):
                    if random.random() < 0.3:
                        random.shuffle(rows)
                    elif random.random() < 0.3:
                        at, to = random.randrange(wide), random.randrange(wide)
                        for row in rows:
                            row[at], row[to] = row[to], row[at]
                    else:
                        random.choice(rows)[random.randrange(wide)] = random.choice(tiles)
                so = is_round_told(machine, way, wide, rows)
                self.check(so, machine, way, wide, Round(wide, rows))
                met[so] += 1
        self.assertGreater(min(met.values()), 20)

    def test_wrong_blocks(self):
        for machine, way, wide, block in self.rounds():
            off = [(), [], None, 0, True, "round", {}, [None], [[]], [()] * len(way), block[0], block[0][0], [block], block + [block[0]],
                   block[:-1], [row[:-1] for row in block], [row + row[:1] for row in block], block[1:] + [block[0][:-1]],
                   Round(wide, block), [{1}] * len(way), ["a" * wide] * len(way), {0: block[0]}]
            for at in range(len(way)):
                tile = block[at][0]
                for item in OFF_TILES + (tile[:4], (*tile, 0), (bool(tile[0]), *tile[1:]) if tile[0] < 2 else None, (float(tile[0]), *tile[1:]),
                                         (-1, *tile[1:]), (*tile[:4], (77,) * machine.wide), (*tile[:3], (77,) * machine.wide, tile[4])):
                    off.append(block[:at] + [[item] + block[at][1:]] + block[at + 1:])
            for value in off:
                self.check(False, machine, way, wide, Round(wide, value))

    def test_sides_that_stay_open(self):
        """A row that does not close, and a block that does not come round down, though all else fits."""
        still, laid = (1, (0,), (0,), (0,), (0,)), (1, (1,), (0,), (1,), (0,))
        flat, tall = (0, (0,), (0,), (0,), (1,)), (0, (1,), (1,), (1,), (0,))
        up, down = (0, (0,), (0,), (1,), (0,)), (0, (1,), (0,), (0,), (0,))
        for way, wide, rows, told in (([0], 2, [[flat, tall]], True), ([0], 2, [[flat, (0, (0,), (1,), (1,), (1,))]], False),
                                      ([0], 1, [[flat]], False), ([0], 1, [[up]], False), ([0, 0], 1, [[up], [down]], True),
                                      ([0, 1], 1, [[up], [laid]], False), ([1, 1], 1, [[still], [laid]], False),
                                      ([1, 1], 1, [[still], [still]], True), ([0], 2, [[up, down]], False),
                                      ([0, 0], 2, [[up, down], [down, up]], True), ([0, 0], 2, [[up, up], [down, tall]], False)):
            self.check(told, FLIP, way, wide, Round(wide, rows))
            self.assertIs(is_round_told(FLIP, way, wide, rows), told)

    def test_other_pieces(self):
        pair = line_machine([(0, 1, 0), (0, 2, 0)])
        for number in (0, 1):
            for way in (0, 1):
                self.check(number == way, pair, [way], 1, Round(1, [[(number, (0,), (0,), (0,), (0,))]]))
        self.check(False, pair, [0, 1], 1, Round(1, [[(number, (0,), (0,), (0,), (0,))] for number in (1, 0)]))

    def test_truths(self):
        laid = (1, (1,), (0,), (1,), (0,))
        self.check(True, FLIP, [1], 1, Round(1, [[laid]]))
        for wide in (True, 1.0, (1,), [1], None, "1", 0, 2, -1):
            self.check(False, FLIP, [1], 1, Round(wide, [[laid]]))
            self.check(False, FLIP, [3], 1, Straight(wide))
        for item in ((True, *laid[1:]), (1, (True,), *laid[2:]), (1, (1,), (False,), (1,), (0,)), (1, (1,), (0,), (True,), (0,)),
                     (1, (1,), (0,), (1,), (False,)), (1.0, *laid[1:])):
            self.check(False, FLIP, [1], 1, Round(1, [[item]]))

    def test_straight(self):
        for wide in range(1, 61):
            self.check(wide % 3 != 0, FLIP, [6, 7], wide, Straight(wide))
            self.check(True, FLIP, [3], wide, Straight(wide=wide))
            self.check(False, FLIP, [1], wide, Straight(wide))
            for other in (wide + 1, wide - 1, 0, 3, True, None, [wide], float(wide)):
                if other != wide or other is True or isinstance(other, float):
                    self.check(False, FLIP, [3], wide, Straight(other))

    def test_other_values(self):
        for machine, way, wide in ((FLIP, [0], 2), (FLIP, [0], 3), (PLANE, [0], 1), (PLANE, [0], 2)):
            told = judged_round(machine, way, wide)
            for value in (*OFF_VALUES, *namesakes(told), told.parts, [told], Paper(told.word, *told.parts),
                          Denial(told.word, *told.parts)):
                self.check(False, machine, way, wide, value)

    def test_too_many(self):
        """What columns_of raises is raised for a Straight of this wide alone; too many rows for any value."""
        cases = ((MANY, [1], "carries"), (MANY, [2] * 59 + [5], "carries"), (MANY, [2], "columns"), (MORE, [0] * 60, "columns"),
                 (JUST, [1], "columns"))
        for machine, way, what in cases:
            for wide in (1, 2, 60):
                self.assert_raises(("TooMany", what, 4000), shows_round, machine, way, wide, Straight(wide))
                for value in (None, Straight(wide + 1), Straight(True), Straight([wide]), Straight(None), *namesakes(Straight(wide)),
                              Round(wide, []), Round(wide, [[None] * wide] * len(way)), Straight):
                    self.check(False, machine, way, wide, value)
        self.check(True, MANY, [1], 1, Round(1, [[(1, (0,), (0,), (0,), (0,))]]))
        self.check(True, MANY, [2], 2, Round(2, [[(2, (0,), (0,), (0,), (0,))] * 2]))
        for value in (None, Straight(1), Straight(2), Round(1, []), Round(1, [[(1, (0,), (0,), (0,), (0,))]] * 61)):
            for machine, way in ((FLIP, [1] * 61), (MANY, [1] * 400), (MORE, [0] * 61)):
                self.assert_raises(("TooMany", "rows", 60), shows_round, machine, way, 1, value)

    def test_refuses(self):
        for value in (None, Straight(1), Round(1, [[None]]), 0):
            for machine in NO_MACHINES:
                self.assert_raises(("BadMachine", "machine"), shows_round, machine, None, None, value)
            for machine in (FLIP, PLANE, MANY):
                for way in OFF_WAYS:
                    self.assert_raises(("BadWay", "way"), shows_round, machine, way, None, value)
                for wide in OFF_WIDES:
                    for way in ([0], [0] * 61):
                        self.assert_raises(("BadNumber", "wide"), shows_round, value=value, machine=machine, wide=wide, way=way)
