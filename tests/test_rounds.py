"""Rounds [13]."""

from fractions import Fraction
from itertools import product
from math import lcm
from random import Random

from timesfloor import bands, machines, rounds
from timesfloor.bands import columns_of
from timesfloor.errors import TileError
from timesfloor.floors import block_of, is_round, judged_block
from timesfloor.machines import Machine, line_machine
from timesfloor.rounds import Round, Straight, judged_round, round_at, rounds_wide
from timesfloor.runs import judged_run

from tests.examples_rounds import ROUNDS
from tests.helpers import Case
from tests.machines_made import formed, is_held, nested_lists, where_led, worth
from tests.test_bands import JUST, MORE, TWICE, small_ways
from tests.test_runs import OFF_POINTS, OFF_WAYS
from tests.test_tiles import MANY, NO_MACHINES

FLIP = line_machine([(0, -1, 1), (0, 1, 0), (-2, -1, -3), (0, 1, -2), (-2, 1, 2), (5, 0, (11, 2)), (0, 2, 0), (0, 2, -1)])
# Turned by a quarter about (1/2, 1/2), exchanged, as it is, and a half of all.
PLANE = Machine(2, [((0, 0), ((0, -1), (1, 0)), (1, 0)), ((0, 0), ((0, 1), (1, 0)), (0, 0)), ((0, 0), ((1, 0), (0, 1)), (0, 0)),
                    ((0, 0), (((1, 2), 0), (0, (1, 2))), ((1, 6), (1, 4)))])
OFF_WIDES = (None, True, False, "1", 1.0, (1, 2), [1], 0, 61, -1, 10 ** 299, {})


def comes_back(machine, way, point):
    """The numbers on the way of a point that comes back by it; None if it does not."""
    here, met = point, []
    for number in way:
        if not is_held(machine.pieces[number], here):
            return None
        met += here
        here = where_led(machine.pieces[number], here)
    return met if here == point else None


def points_wide(machine, way, wide):
    """All points that come back by a way with all numbers on it times wide integers."""
    found = []
    corner = machine.pieces[way[0]][0]
    for parts in product(range(wide + 1), repeat=machine.wide):
        point = tuple(formed(low + Fraction(part, wide)) for low, part in zip(corner, parts))
        met = comes_back(machine, way, point)
        if met is not None and all((worth(number) * wide).denominator == 1 for number in met):
            found.append(point)
    return found


def few_ways(seed, many):
    """Machines with ways that have few columns, with the pieces of FLIP and PLANE among them."""
    random = Random(seed)
    found = list(small_ways(seed, many))
    for machine in (FLIP, PLANE):
        for _ in range(many):
            found.append((machine, [random.randrange(len(machine.pieces)) for _ in range(random.randrange(1, 4))]))
    return found


class RoundAtTest(Case):

    def test_examples(self):
        self.check_examples(ROUNDS, {**vars(machines), **vars(bands), **vars(rounds)})

    def test_some_points(self):
        met = set()
        cases = [(FLIP, [number], way) for number in ((1, 2), (1, 3), (2, 7), (5, 12)) for way in ([0, 0], [1], [3, 4], [0, 1, 0])]
        cases += [(FLIP, [number], [2, 2]) for number in (-1, -2, (-3, 2), (-7, 6))] + [(FLIP, [(-3, 2)], [2])]
        cases += [(FLIP, [(11, 2)], [5]), (FLIP, [(1, 3)], [6, 7]), (FLIP, [(1, 7)], [6, 6, 7]), (FLIP, [0], [6] * 5)]
        cases += [(PLANE, [one, other], way) for one in (0, (1, 2), (1, 3), (2, 5)) for other in (1, (1, 4), (5, 6))
                  for way in ([0] * 4, [1, 1], [2], [0, 1, 0, 1], [1, 0, 2, 1, 0])]
        cases += [(PLANE, [(1, 3), (1, 2)], [3]), (PLANE, [(1, 2), (1, 2)], [0, 1, 0, 0])]
        for machine, point, way in cases:
            run = judged_run(machine, point, way)
            told = round_at(machine, nested_lists(point), tuple(way))
            wide = lcm(*[worth(number).denominator for here in run.points for number in here])
            self.assertIsInstance(told, Round)
            self.assert_same((told.word, told.wide, bool(told)), ("round", wide, True))
            self.assert_same(told.block, block_of(machine, point, way, 1, wide))
            self.assertIs(is_round(machine, told.block), True)
            self.assert_same(judged_block(machine, told.block).averages, run.points)
            self.assertTrue(round_at(way=way, machine=machine, point=point) == told)
            met.add(wide)
        self.assertLessEqual({1, 2, 3, 6, 7, 12, 30}, met)

    def test_numbers_on_the_way(self):
        """The first number is an integer, or whole with less, than those on the way."""
        machine = line_machine([(1, (1, 6), 0), (0, 6, 0), (0, 5, (1, 6)), (1, 1, (-1, 10)), (0, 1, (1, 10))])
        self.assertEqual(round_at(machine, [1], [0, 1]).wide, 6)
        self.assertEqual(round_at(machine, [(1, 6)], [2, 0]).wide, 6)
        self.assertEqual(round_at(machine, [(9, 10)], [4, 3, 4, 3]).wide, 10)
        self.assertEqual(round_at(machine, [(19, 20)], [4, 3]).wide, 20)

    def test_rows(self):
        for way in ([0] * 60, [1] * 60, [0, 1] * 30):
            told = round_at(FLIP, [(1, 5)], way)
            self.assertEqual((told.wide, len(told.block)), (5, 60))
            self.assertIs(is_round(FLIP, told.block), True)
        for way in ([1] * 61, [0, 0] * 200, [1] * 400):
            self.assert_raises(("TooMany", "rows", 60), round_at, FLIP, [(1, 5)], way)
        self.assert_raises(("TooMany", "rows", 60), round_at, way=[1] * 61, machine=FLIP, point=[(1, 401)])

    def test_places(self):
        for number in ((1, 400), (399, 400), (137, 400)):
            for way in ([0, 0], [1], [1, 0] * 30):
                told = round_at(FLIP, [number], way)
                self.assertEqual((told.wide, len(told.block), {len(row) for row in told.block}), (400, len(way), {400}))
                self.assertIs(is_round(FLIP, told.block), True)
        self.assertEqual(round_at(PLANE, [(1, 16), (1, 25)], [1, 1]).wide, 400)
        for number in ((1, 401), (400, 401), (1, 1000), (1, 10 ** 250)):
            self.assert_raises(("TooMany", "places", 400), round_at, FLIP, [number], [0, 0])
            self.assert_raises(("TooMany", "places", 400), round_at, PLANE, [(1, 2), number], [2])
        self.assert_raises(("TooMany", "places", 400), round_at, PLANE, [(1, 20), (1, 21)], [1, 1])

    def test_points_that_do_not_come_back(self):
        for machine, point, way in ((FLIP, [(1, 3)], [0]), (FLIP, [(1, 3)], [0, 1, 0, 0]), (FLIP, [3], [0]), (FLIP, [(1, 3)], [3]),
                                    (FLIP, [(1, 2)], [0, 5]), (FLIP, [(1, 2)], [0, 0, 0, 5]), (FLIP, [(1, 2)], [3, 3]),
                                    (FLIP, [1], [6]), (PLANE, [(1, 3), (1, 2)], [1]), (PLANE, [(1, 3), 1], [0]), (PLANE, [2, 0], [2]),
                                    (PLANE, [(1, 401), (1, 2)], [0]), (FLIP, [(1, 401)], [0] * 61), (FLIP, [(1, 401)], [0] * 399)):
            self.assert_raises(("Misfit", "point"), round_at, machine, point, way)

    def test_refuses(self):
        for value in NO_MACHINES:
            self.assert_raises(("BadMachine", "machine"), round_at, value, None, None)
        for machine, more in ((FLIP, [1, 1]), (PLANE, [1])):
            for value in OFF_POINTS + (more,):
                if value != [1] * machine.wide:
                    self.assert_raises(("BadPoint", "point"), round_at, machine, value, None)
            for value in OFF_WAYS:
                self.assert_raises(("BadWay", "way"), round_at, machine, [9] * machine.wide, value)


class RoundsWideTest(Case):

    def test_some_ways(self):
        random, met = Random(111), set()
        for machine, way in few_ways(112, 120):
            if machine.wide == 2:
                continue
            for wide in (1, 2, 3, 4, random.randrange(5, 13)):
                told = tuple(point[0] for point in points_wide(machine, way, wide))
                self.assert_same(rounds_wide(machine, way, wide), told)
                self.assert_same(rounds_wide(wide=wide, way=tuple(way), machine=machine), told)
                self.assertEqual(sorted(told, key=worth), list(told))
                met.add((min(len(told), 3), wide < 5, any(worth(number) < 0 for number in told)))
        self.assertLessEqual({(0, True, False), (1, True, False), (2, True, False), (3, True, False), (3, True, True)}, met)

    def test_rows(self):
        """q above 0, below 0, and 0; where it is 1 all numbers come back, or none."""
        for way, wide, told in (([0], 2, ((1, 2),)), ([0], 1, ()), ([0, 0], 3, (0, (1, 3), (2, 3), 1)), ([1], 1, (0, 1)),
                                ([2], 2, ((-3, 2),)), ([2, 2], 2, (-2, (-3, 2), -1)), ([3], 60, ()), ([3, 4], 1, (0, 1)),
                                ([5], 2, ((11, 2),)), ([5], 4, ((11, 2),)), ([5], 3, ()), ([6], 60, (0,)), ([7], 60, (1,)),
                                ([6, 7], 3, ((1, 3),)), ([6, 7], 2, ()), ([6, 6, 7], 7, ((1, 7),)), ([6, 0], 3, ((1, 3),)),
                                ([0, 6], 3, ((2, 3),)), ([4, 3], 3, (-2, (-5, 3), (-4, 3), -1))):
            self.assert_same(rounds_wide(FLIP, way, wide), told)

    def test_whole_on_the_way(self):
        """Numbers that come back, but are whole less often on the way."""
        machine = line_machine([(1, (1, 6), 0), (0, 6, 0), (0, (1, 2), 0), (0, 2, 0)])
        for wide, told in ((1, ()), (2, ()), (3, (2,)), (4, ((3, 2),)), (5, ((6, 5),)), (6, (1, 2)), (12, (1, (3, 2), 2))):
            self.assert_same(rounds_wide(machine, [0, 1], wide), told)
        self.assert_same(rounds_wide(machine, [2, 3], 3), (0, (2, 3)))
        self.assert_same(rounds_wide(machine, [2, 3], 4), (0, (1, 2), 1))
        self.assert_same(rounds_wide(machine, [2, 3], 1), (0,))

    def test_widest_and_longest(self):
        sixtieths = tuple(formed(Fraction(at, 60)) for at in range(61))
        for way in ([1], [0, 0], [1] * 400, [0, 1, 0, 1] * 100):
            self.assert_same(rounds_wide(FLIP, way, 60), sixtieths)
        self.assert_same(rounds_wide(FLIP, [0] * 399, 60), ((1, 2),))
        self.assert_same(rounds_wide(FLIP, [6] * 399 + [7], 60), ())
        self.assert_same(rounds_wide(FLIP, [6] * 400, 60), (0,))

    def test_refuses(self):
        for value in NO_MACHINES:
            self.assert_raises(("BadMachine", "machine"), rounds_wide, value, None, None)
        for machine in (FLIP, PLANE):
            for value in OFF_WAYS:
                self.assert_raises(("BadWay", "way"), rounds_wide, machine, value, None)
            for value in OFF_WIDES:
                self.assert_raises(("BadNumber", "wide"), rounds_wide, machine, [0], value)
        for wide in (1, 60):
            self.assert_raises(("Misfit", "machine"), rounds_wide, way=[0] * 400, wide=wide, machine=PLANE)


class JudgedRoundTest(Case):

    def check_round(self, machine, way, wide, told):
        """Whether this is a block so wide by the way that comes round; its averages are the points of a run."""
        self.assert_same((told.word, told.wide, bool(told)), ("round", wide, True))
        self.assertEqual((len(told.block), {len(row) for row in told.block}), (len(way), {wide}))
        self.assertEqual([{tile[0] for tile in row} for row in told.block], [{number} for number in way])
        self.assertIs(is_round(machine, told.block), True)
        self.assertIsNotNone(comes_back(machine, way, judged_block(machine, told.block).averages[0]))

    def check(self, machine, way, wide, so):
        told = judged_round(machine, way, wide)
        self.assertTrue(judged_round(wide=wide, way=tuple(way), machine=machine) == told)
        if so:
            self.assertIsInstance(told, Round)
            self.check_round(machine, way, wide, told)
        else:
            self.assertIsInstance(told, Straight)
            self.assert_same((told.word, told.wide, bool(told)), ("straight", wide, False))

    def test_some_ways(self):
        random, met = Random(113), {}
        for machine, way in few_ways(114, 120):
            try:
                columns_of(machine, way)
            except TileError:
                continue
            for wide in (1, 2, 3, 4, random.randrange(5, 11)):
                points = points_wide(machine, way, wide)
                self.check(machine, way, wide, bool(points))
                if machine.wide == 1:
                    self.assertEqual(bool(rounds_wide(machine, way, wide)), bool(points))
                met[machine.wide, bool(points)] = met.get((machine.wide, bool(points)), 0) + 1
        self.assertGreater(min(met[wide, so] for wide in (1, 2) for so in (True, False)), 50)

    def test_wide(self):
        for wide in range(1, 61):
            self.check(FLIP, [0], wide, wide % 2 == 0)
            self.check(FLIP, [6, 7], wide, wide % 3 == 0)
            self.check(FLIP, [6, 6, 7], wide, wide % 7 == 0)
            self.check(FLIP, [3], wide, False)
            self.check(FLIP, [1], wide, True)
            self.check(PLANE, [0], wide, wide % 2 == 0)
        machine = line_machine([(0, 5, 0), (0, 5, -1), (0, 5, -2), (0, 5, -3), (0, 5, -4)])
        for wide in range(1, 61):
            self.check(machine, [1, 3], wide, wide % 3 == 0)
            self.check(machine, [1, 4], wide, wide % 8 == 0)

    def test_rows(self):
        for machine, way in ((FLIP, [1] * 60), (FLIP, [1] * 59 + [6]), (PLANE, [1] * 60), (PLANE, [1, 2, 1] * 20)):
            for wide in (1, 3, 60):
                self.check(machine, way, wide, True)
        for way in ([1] * 61, [0] * 400):
            self.assert_raises(("TooMany", "rows", 60), judged_round, FLIP, way, 1)
        self.assert_raises(("TooMany", "rows", 60), judged_round, MANY, [0] * 61, 60)
        self.assert_raises(("TooMany", "rows", 60), judged_round, MORE, [0] * 61, 60)

    def test_no_column(self):
        for wide in (1, 2, 60):
            self.check(TWICE, [0] * 3, wide, False)
            self.check(line_machine([(0, 100, 0), (70, 1, 0), (1000, 1, 0)]), [0, 2], wide, False)
            self.check(line_machine([(0, 100, 0), (70, 1, 0), (1000, 1, 0)]), [0, 1], wide, False)

    def test_too_many(self):
        for way in ([1], [2, 1], [1, 2], [2, 2, 2, 4], [2] * 59 + [5]):
            self.assert_raises(("TooMany", "carries", 4000), judged_round, MANY, way, 1)
        for machine, way in ((MANY, [2]), (MANY, [2, 3, 2]), (MORE, [0] * 60), (JUST, [1]), (JUST, [2, 2, 1])):
            self.assert_raises(("TooMany", "columns", 4000), judged_round, wide=60, way=way, machine=machine)
        self.assertEqual(len(columns_of(JUST, [2, 0])), 4000)
        # A thousand carries in a circle, a second pair of labels: as many places as the shift wants.
        for wide in (1, 10, 60):
            self.assertIs(bool(judged_round(JUST, [2, 0], wide)), False)
        tenth = line_machine([(0, 0, (1, 50))])
        for wide, so in ((49, False), (50, True), (51, False), (25, False)):
            self.check(tenth, [0], wide, so)

    def test_refuses(self):
        for value in NO_MACHINES:
            self.assert_raises(("BadMachine", "machine"), judged_round, value, None, None)
        for machine in (FLIP, PLANE, MANY):
            for value in OFF_WAYS:
                self.assert_raises(("BadWay", "way"), judged_round, machine, value, None)
            for value in OFF_WIDES:
                for way in ([0], [0] * 61):
                    self.assert_raises(("BadNumber", "wide"), judged_round, machine, way, value)

    def test_papers(self):
        told = Round([2], [[1], [[2]]])
        self.assert_same((told.wide, told.block), ((2,), ((1,), ((2,),))))
        self.assertTrue(Round(2, ()) == Round(block=[], wide=2))
        self.assertTrue(Straight(2) == Straight(wide=2))
        self.assertFalse(Straight(2) == Straight(3))
