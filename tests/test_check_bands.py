"""Checking papers on bands [12]."""

from random import Random

from timesfloor import bands, check_bands, machines
from timesfloor.bands import Band, Gap, columns_of, judged_band
from timesfloor.check_bands import shows_band
from timesfloor.floors import block_of
from timesfloor.machines import line_machine
from timesfloor.papers import Denial, Paper

from tests.examples_judged import BANDS
from tests.examples_rounds import CHECK_BANDS
from tests.helpers import Case, namesakes
from tests.machines_made import nested_lists
from tests.test_bands import JUST, MORE, SWAP, TWICE, columns_laid, sides, small_ways, widest
from tests.test_tiles import MANY, NO_MACHINES, OFF_TILES

OFF_VALUES = (None, True, False, 0, 1, "band", "gap", (1,), [], Band, Gap, object(), ("gap", 5), Paper("gap", 5),
              Paper("band", ()))
OFF_WIDES = (None, True, False, "5", 5.0, (5,), [5], (5, 1), 0, -1, -5, 10001, 10 ** 299, {}, Gap(5))
HALF = [0] * 4
STILL, LAID = (1, (0,), (0,), (0,), (0,)), (1, (1,), (0,), (1,), (0,))
FLAT, TALL = (3, (0,), (0,), (0,), (1,)), (3, (1,), (1,), (1,), (0,))


def is_round_told(known, columns):
    """Whether columns are known ones, each ahead of the next one, and the last one ahead of the first one."""
    return bool(columns) and all(column in known for column in columns) and all(
        sides(one)[1] == sides(other)[0] for one, other in zip(columns, columns[1:] + columns[:1]))


class ShowsBandTest(Case):

    def check(self, told, machine, way, value):
        self.assertIs(shows_band(machine, way, value), told, value.parts if isinstance(value, Paper) else value)

    def test_examples(self):
        names = {**vars(machines), **vars(bands), **vars(check_bands)}
        for text in (BANDS, CHECK_BANDS):
            self.check_examples(text, names)

    def test_what_is_told(self):
        words = set()
        for machine, way in small_ways(101, 200):
            columns = columns_laid(machine, way)
            if len(columns) > 4000:
                continue
            told, wide = judged_band(machine, way), widest(columns)
            self.check(True, machine, way, told)
            self.assertIs(shows_band(value=told, way=tuple(way), machine=machine), True)
            for many in {1, 2, 3, wide or 1, (wide or 1) + 1, (wide or 1) + 2, 50, 9999, 10000}:
                self.check(wide is not None and many > wide, machine, way, Gap(many))
            words.add((told.word, machine.wide, len(way)))
        self.assertLessEqual({("band", 1, 3), ("gap", 1, 3), ("band", 2, 2), ("gap", 2, 2)}, words)

    def test_lists_of_some_columns(self):
        random, met = Random(102), {True: 0, False: 0}
        for machine, way in small_ways(103, 150):
            columns = columns_laid(machine, way)
            if not columns or len(columns) > 400:
                continue
            known = set(columns)
            told = judged_band(machine, way)
            some = list(told.columns) if told else [random.choice(columns)]
            for _ in range(12):
                value = list(some) * random.choice((1, 1, 2))
                for _ in range(random.choice((0, 1, 1, 2))):
                    at = random.randrange(len(value))
                    value[at:at + random.randrange(2)] = [random.choice(columns) for _ in range(random.choice((0, 1, 1)))]
                    if not value:
                        break
                so = is_round_told(known, value)
                self.check(so, machine, way, Band(value))
                met[so] += 1
        self.assertGreater(min(met.values()), 100)

    def rounds(self):
        """Ways of MORE with the columns of points that come back or go on."""
        for point, way, wide in (([(1, 2)], [1, 3, 1], 2), ([(1, 3)], [3, 3], 3), ([0], [1], 1), ([(1, 3)], [2, 2], 3),
                                 ([(1, 2)], [0], 2), ([0], [0, 0], 2), ([(1, 4)], [0], 4)):
            yield way, list(zip(*block_of(MORE, point, way, 5, wide)))

    def test_right_bands(self):
        for way, columns in self.rounds():
            for value in (columns, tuple(columns), nested_lists(columns), columns * 2, columns[1:] + columns[:1],
                          columns[-1:] + columns[:-1], columns * (4000 // len(columns))):
                self.check(True, MORE, way, Band(value))
            self.check(True, MORE, tuple(way), Band(columns=columns))

    def test_how_many(self):
        column = (LAID, LAID)
        for many, told in ((1, True), (4000, True), (4001, False), (0, False)):
            self.check(told, MORE, [1, 1], Band([column] * many))
        self.check(True, MORE, [1] * 400, Band([[STILL] * 400]))
        self.check(False, MORE, [1] * 399, Band([[STILL] * 400]))
        self.check(False, MORE, [1] * 400, Band([[STILL] * 399]))

    def test_wrong_bands(self):
        for way, columns in self.rounds():
            off = [columns[:-1] + [columns[-1][:-1]], columns + [columns[0] * 2], columns + [None], columns + [()],
                   [columns], [columns[0], columns[0][0]], columns[0][0], None, 0, True, "band", {}, {0: 1}, [None], [[]],
                   [column[:-1] for column in columns], [column + column[-1:] for column in columns], Band(columns)]
            known = set(columns_of(MORE, way))
            for value in (columns[:-1], columns[1:], columns + columns[:1], columns[:1], columns[::-1], columns[::2]):
                self.check(is_round_told(known, value), MORE, way, Band(value))
            for at in range(len(way)):
                tile = columns[0][at]
                for item in OFF_TILES + ((*tile[:4], (7,)), (*tile[:4], (True,)), (*tile[:1], (7,), *tile[2:]),
                                         (bool(tile[0]), *tile[1:]), (float(tile[0]), *tile[1:]), (4, *tile[1:]), tile[:4],
                                         (*tile, 0)):
                    off.append([columns[0][:at] + (item,) + columns[0][at + 1:]] + columns[1:])
            for value in off:
                self.check(False, MORE, way, Band(value))

    def test_truths(self):
        self.check(True, MORE, [1], Band([[LAID]]))
        for item in ((True, *LAID[1:]), (1, (True,), *LAID[2:]), (1, (1,), (False,), (1,), (0,)), (1, (1,), (0,), (True,), (0,)),
                     (1, (1,), (0,), (1,), (False,)), (1.0, *LAID[1:]), (1, (1.0,), *LAID[2:])):
            self.check(False, MORE, [1], Band([[item]]))

    def test_bands_of_other_ways(self):
        """Columns that come round, but by other pieces."""
        told = Band([[FLAT, STILL], [TALL, LAID]])
        self.check(True, MORE, [3, 1], told)
        for way in ([1, 3], [3], [1], [3, 3], [1, 1], [3, 1, 1], [3, 1, 3, 1]):
            self.check(False, MORE, way, told)
        pair = line_machine([(0, 1, 0), (0, 2, 0)])
        for number in (0, 1):
            for way in (0, 1):
                self.check(number == way, pair, [way], Band([[(number, (0,), (0,), (0,), (0,))]]))

    def test_gaps(self):
        for wide, told in ((1, False), (4, False), (5, True), (6, True), (9, True), (9999, True), (10000, True)):
            self.check(told, MORE, HALF, Gap(wide))
            self.assertIs(shows_band(value=Gap(wide=wide), way=tuple(HALF), machine=MORE), told)
            self.check(False, MORE, [0] * 3, Gap(wide))
            self.check(True, TWICE, [0] * 3, Gap(wide))
            self.check(False, TWICE, [0] * 2, Gap(wide))
        for wide in OFF_WIDES:
            self.check(False, MORE, HALF, Gap(wide))
            self.check(False, TWICE, [0] * 3, Gap(wide))
            self.check(False, TWICE, [0], Gap(wide))

    def test_other_values(self):
        for machine, way in ((MORE, HALF), (MORE, [0]), (TWICE, [0] * 3), (SWAP, [0, 0])):
            told = judged_band(machine, way)
            for value in (*OFF_VALUES, *namesakes(told), told.parts, [told], Paper(told.word, *told.parts),
                          Denial(told.word, *told.parts)):
                self.check(False, machine, way, value)

    def test_raises_whatever_the_value(self):
        for value in (None, Gap(1), Gap(0), Band([]), Band([[STILL]]), Gap(True), 5):
            for machine in NO_MACHINES:
                self.assert_raises(("BadMachine", "machine"), shows_band, machine, None, value)
            for way in ([], None, [4], [True], [-1], [0] * 401, "0", {0: 0}, [(0,)], [0, None]):
                self.assert_raises(("BadWay", "way"), shows_band, MORE, way, value)
            for way in ([1], [2, 1], [2] * 399 + [5]):
                self.assert_raises(("TooMany", "carries", 4000), shows_band, MANY, way, value)
            for machine, way in ((MANY, [2]), (MANY, [2, 3, 2]), (MORE, [0] * 400), (JUST, [1]), (JUST, [2, 2, 1])):
                self.assert_raises(("TooMany", "columns", 4000), shows_band, value=value, way=way, machine=machine)
        self.check(True, JUST, [2, 2, 0], judged_band(JUST, [2, 2, 0]))
        self.assertEqual(len(columns_of(JUST, [2, 2, 0])), 4000)
