"""Answers come in a short time [2], for the greatest machines, ways, blocks and programs that the document names."""

from fractions import Fraction
from random import Random
from time import perf_counter

from timesfloor.bands import Band, Gap, columns_of, judged_band, numbers_of
from timesfloor.check_bands import shows_band
from timesfloor.check_floors import shows_block
from timesfloor.check_judged import shows_judged
from timesfloor.check_rounds import shows_round
from timesfloor.check_runs import shows_run
from timesfloor.courses import judged_course
from timesfloor.desks import Desk
from timesfloor.errors import TileError
from timesfloor.floors import block_of, is_round, judged_block, offs_of
from timesfloor.judged import judged
from timesfloor.leads import like_stand, machine_of, point_of, stand_of, way_of
from timesfloor.machines import Machine, line_machine
from timesfloor.pictures import picture
from timesfloor.programs import Program
from timesfloor.rounds import judged_round, round_at, rounds_wide
from timesfloor.rows import labels_of, sum_of, told_back
from timesfloor.runs import judged_run, through
from timesfloor.scripts import played
from timesfloor.stretches import comebacks, goal_of, living, stretch_of, ways_of
from timesfloor.tiles import carries_of, tile_at, tiles_of

from tests.helpers import Case
from tests.machines_made import formed

# Far more than any answer takes, so that a busy machine does no harm; what goes on too long takes far longer.
SECONDS = 8
ROUND = line_machine([(0, 1, 0), (0, 1, (1, 7)), (0, 1, (-1, 7)), (0, -1, 1), (0, (1, 2), 0), (0, 2, 0)])


def some_number(random, most):
    return formed(Fraction(random.randrange(-most, most + 1), random.randrange(1, most + 1)))


def dense_machine(random, many, figures, span):
    """A machine of width 1 whose pieces lead from some squares into them."""
    triples = set()
    while len(triples) < many:
        under = random.randrange(max(1, 10 ** figures - 9), 10 ** figures)
        q = Fraction(random.randrange(-2 * under, 2 * under), under)
        low = random.randrange(-span, span)
        goal = Fraction(random.randrange(-span * under, span * under), under)
        r = goal - round(q * low)
        if abs(r.numerator) < 10 ** 6:
            triples.add((low, formed(q), formed(r)))
    return line_machine(sorted(triples, key=repr))


class TimesTest(Case):

    def quick(self, function, *args):
        """What a call returns, or the TileError that it raises; it does not take long."""
        start = perf_counter()
        try:
            told = function(*args)
        except TileError as error:
            told = error
        self.assertLess(perf_counter() - start, SECONDS, function)
        return told

    def test_machines_of_twelve_pieces(self):
        random = Random(201)
        for _ in range(25):
            wide = random.choice((1, 2))
            pieces = {(tuple(random.randrange(-2, 2) for _ in range(wide)),
                       tuple(tuple(some_number(random, 12) for _ in range(wide)) for _ in range(wide)),
                       tuple(some_number(random, 12) for _ in range(wide))) for _ in range(12)}
            machine = Machine(wide, sorted(pieces, key=repr))
            ways = [[random.randrange(len(pieces)) for _ in range(many)] for many in (1, 2, 3, 12)]
            for way in ways + [[number] * 12 for number in range(3)]:
                self.quick(judged_round, machine, way, 60)
                self.quick(columns_of, machine, way)
                told = self.quick(judged_band, machine, way)
                self.quick(shows_band, machine, way, told if isinstance(told, (Band, Gap)) else Gap(5))
                if isinstance(told, Band):
                    self.quick(numbers_of, machine, told.columns)
            for number in range(len(pieces)):
                self.quick(tiles_of, machine, number)
            if wide == 1:
                told = self.quick(judged, machine, 40, 8)
                self.quick(shows_judged, machine, 40, 8, told)

    def test_machines_of_many_pieces(self):
        """Stretches, ways and carries near to their bounds, and beyond them."""
        random, met = Random(202), set()
        for many, figures, span in ((45, 3, 1), (45, 3, 4), (45, 2, 10), (45, 3, 22), (12, 3, 2), (5, 3, 1), (30, 3, 8)):
            machine = dense_machine(random, many, figures, span)
            for steps in (5, 20, 60):
                met.add(type(self.quick(living, machine, steps)).__name__)
            for steps in (2, 5, 12):
                met.add(type(self.quick(ways_of, machine, steps)).__name__)
            self.quick(comebacks, machine, 8)
            self.quick(shows_judged, machine, 40, 8, self.quick(judged, machine, 40, 8))
            for number in range(5):
                self.quick(carries_of, machine, number)
        self.assertEqual(met, {"tuple", "TooMany"})

    def test_long_ways(self):
        random = Random(203)
        for way in ([3, 0] * 200, [4, 5] * 200, [1, 2] * 200, [random.choice((0, 3)) for _ in range(400)]):
            run = self.quick(judged_run, ROUND, [(2, 7)], way)
            self.assertEqual(run.word, "goes")
            self.assertIs(self.quick(shows_run, ROUND, [(2, 7)], way, run), True)
            self.quick(rounds_wide, ROUND, way, 60)
            for function in (through, stretch_of, goal_of, judged_band, columns_of):
                self.quick(function, ROUND, way)
            told = self.quick(block_of, ROUND, [(2, 7)], way, 10 ** 179, 10)
            self.assertEqual(len(told), 400)
        machine = line_machine([(0, (997, 991), (-1, 983)), (0, (991, 997), (1, 977)), (0, (-5, 999), (500, 997))])
        way = [random.randrange(3) for _ in range(400)]
        for function in (through, stretch_of, goal_of):
            self.quick(function, machine, way)

    def test_large_blocks(self):
        machine = Machine(2, [((0, 0), ((0, 1), (1, 0)), (0, 0)), ((0, 0), (((1, 2), (1, 2)), ((-1, 3), (1, 3))), (0, (1, 3)))])
        for point, way, many in (([(1, 997), (991, 1000)], [0] * 10, 400), ([(1, 997), (991, 1000)], [0, 1] + [0] * 8, 400),
                                 ([(500, 999), (1, 1000)], [0] * 400, 10), ([(1, 399), (2, 399)], [0] * 10, 399)):
            block = self.quick(block_of, machine, point, way, 10 ** 180, many)
            told = self.quick(judged_block, machine, block)
            self.assertIs(self.quick(shows_block, machine, block, told) if len(way) <= 60 else True, True)
            for function in (offs_of, is_round, picture):
                self.quick(function, machine, block)
        told = self.quick(round_at, ROUND, [(1, 400)], [3] * 60)
        self.assertEqual((told.wide, len(told.block)), (400, 60))
        self.quick(picture, ROUND, told.block)

    def test_far_places(self):
        point = [formed(Fraction(10 ** 29 + 7, 10 ** 30 - 11)), formed(Fraction(10 ** 29 + 9, 10 ** 30 - 17))]
        machine = Machine(2, [((0, 0), (((1, 7), 12), (5, (-11, 12))), (0, (1, 3)))])
        for _ in range(200):
            self.quick(tile_at, machine, 0, point, 10 ** 180 + 3)
            self.quick(sum_of, point, -10 ** 180, 10 ** 180)
        labels = [label[0] for label in self.quick(labels_of, point, 1, 2000)]
        self.quick(told_back, labels)

    def test_many_columns(self):
        still = line_machine([(0, 1, 0), (0, 62, 0)])
        way = [0] * 399 + [1]
        self.assertEqual(len(self.quick(columns_of, still, way)), 3906)
        told = self.quick(judged_band, still, way)
        self.assertIs(self.quick(shows_band, still, way, told), True)
        self.assertIs(self.quick(shows_band, still, way, Gap(10000)), False)
        column = columns_of(still, [0] * 12)[0]
        self.assertIs(self.quick(shows_band, still, [0] * 12, Band([column] * 4000)), True)
        self.quick(numbers_of, still, [column] * 4000)
        # A circle of a thousand carries, and a line that is nearly as long.
        for shift in ((1, 1000), (999, 1000), (7, 997)):
            turn = line_machine([(0, 0, shift), (0, 1, 0)])
            for way in ([0], [0, 1, 1], [0] + [1] * 11):
                told = self.quick(judged_band, turn, way)
                self.assertIs(self.quick(shows_band, turn, way, told), True)

    def test_many_closing_columns(self):
        """Up to 300 columns that end with the bottom that is their first top, and ways of 60 pieces."""
        met = set()
        for shift, way in (((1, 149), [0]), ((74, 149), [0]), ((1, 140), [0, 1]), ((1, 100), [0] + [1] * 59), ((3, 100), [1] * 30 + [0] + [1] * 29)):
            turn = line_machine([(0, 0, shift), (0, 1, 0)])
            closing = [column for column in columns_of(turn, way) if column[-1][3] == column[0][1]]
            self.assertTrue(90 <= len(closing) <= 300)
            for wide in (1, 7, 59, 60):
                told = self.quick(judged_round, turn, way, wide)
                self.assertIs(self.quick(shows_round, turn, way, wide, told), True)
                met.add(told.word)
        for machine, way in ((ROUND, [1] * 2), (ROUND, [3] * 4), (ROUND, [1, 2]), (ROUND, [4, 5])):
            for wide in (1, 7, 59, 60):
                told = self.quick(judged_round, machine, way, wide)
                self.assertIs(self.quick(shows_round, machine, way, wide, told), True)
                met.add(told.word)
        self.assertEqual(met, {"round", "straight"})

    def test_programs(self):
        program = Program([("test", number % 2, (number + 1) % 15, (number + 4) % 15) for number in range(10)]
                          + [("up", 0, 0), ("down", 0, 1), ("up", 1, 2), ("down", 1, 3), ("test", 0, 10, 12)])
        machine = self.quick(machine_of, program)
        self.assertEqual(len(machine.pieces), 56)
        for stand in ((0, 200, 200), (4, None, 0), (11, 200, None), (10, 0, 100)):
            point = self.quick(point_of, program, stand)
            self.assertEqual(self.quick(stand_of, program, point), stand)
            self.quick(like_stand, program, point)
            way = self.quick(way_of, program, stand, 400)
            self.quick(judged_course, program, stand, 400)
            if way:
                self.assertEqual(self.quick(judged_run, machine, point, way).word, "goes")
                for many in (1, 2, 12, 400):
                    self.quick(judged_band, machine, way[:many])
                    self.quick(judged_round, machine, way[:min(many, 60)], 60)
                    self.quick(block_of, machine, point, way[:many], 0, 10)
        for _ in range(50):
            self.quick(like_stand, program, (formed(Fraction(2, 10 ** 140)), formed(Fraction(1, 10 ** 140 + 1))))
            self.quick(stand_of, program, (formed(Fraction(1, 3 ** 290)), 3))

    def test_desks(self):
        random = Random(204)
        machine = dense_machine(random, 45, 3, 4)
        lines = [f"machine a {machine}", "mirrored b a", "living a 60", "judge b 40 8", "scaled c a 6", "run a 400 1/2", "next a 0", "names",
                 f"band a 0{' 1' * 399}"]
        desk = Desk()
        for line in lines:
            self.quick(desk.tell, line)
        self.quick(played, ["names"] * 5000)
        self.quick(played, [f"program p{number} stop" for number in range(3000)] + ["names"])
