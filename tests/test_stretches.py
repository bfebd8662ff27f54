"""Stretches [10]."""

from fractions import Fraction
from itertools import product
from random import Random

from timesfloor import machines, stretches
from timesfloor.machines import Machine, line_machine
from timesfloor.runs import Goes, judged_run
from timesfloor.stretches import comebacks, goal_of, living, stretch_of, ways_of

from tests.examples_floors import STRETCHES
from tests.helpers import Case
from tests.machines_made import formed, is_held, some_machine, where_led, worth
from tests.test_tiles import NO_MACHINES

CROSS = Machine(2, [((0, -1), ((0, 1), ((1, 2), 0)), (3, (1, 2)))])
FLIP = line_machine([(0, -1, 1)])
HALF = line_machine([(0, 1, (1, 2))])
OFF_NUMBERS = (None, True, False, 0, -1, "1", 1.0, [1], (1,), (1, 2), 10 ** 299)
NEAR = Fraction(1, 10 ** 12)


def lines(seed, many, pieces=5):
    random = Random(seed)
    return [some_machine(random, 1, random.randrange(1, pieces)) for _ in range(many)]


def goes(machine, way, number):
    """To what a number goes by a way; None if it does not."""
    here = (formed(number),)
    for at in way:
        if not is_held(machine.pieces[at], here):
            return None
        here = where_led(machine.pieces[at], here)
    return worth(here[0])


def makes(machine, steps, number):
    """Whether some run of so many steps begins with a number."""
    here = {formed(number)}
    for _ in range(steps):
        here = {where_led(piece, (one,))[0] for one in here for piece in machine.pieces if is_held(piece, (one,))}
    return bool(here)


def ends(told):
    return [worth(end) for stretch in told for end in stretch]


def probes(machine, told):
    """Numbers at the ends of stretches, beside them, between them, and spread over the pieces."""
    some = sorted(set(ends(told)))
    found = [end + more for end in some for more in (-NEAR, 0, NEAR)]
    found += [(one + other) / 2 for one, other in zip(some, some[1:])]
    return found + [Fraction(low, 7) for low in range(-7 * 4, 7 * 4, 3)]


def is_in(told, number):
    return any(worth(low) <= number <= worth(high) for low, high in told)


class WayTest(Case):

    def test_examples(self):
        self.check_examples(STRETCHES, {**vars(machines), **vars(stretches)})

    def check_way(self, machine, way):
        told, goal = stretch_of(machine, list(way)), goal_of(machine, way)
        self.assert_same((stretch_of(way=way, machine=machine), goal_of(way=list(way), machine=machine)), (told, goal))
        self.assertIs(told is None, goal is None)
        here = [] if told is None else [told]
        for number in probes(machine, here):
            self.assertIs(goes(machine, way, number) is not None, is_in(here, number), (way, number))
        if told is not None:
            self.assert_same(tuple(sorted(goes(machine, way, worth(end)) for end in told)), tuple(map(worth, goal)))
            self.assert_same(tuple(formed(worth(end)) for end in (*told, *goal)), (*told, *goal))
        return told

    def test_ways(self):
        kinds = set()
        for machine in lines(61, 60):
            for steps in (1, 2, 3):
                for way in product(range(len(machine.pieces)), repeat=steps):
                    told = self.check_way(machine, way)
                    kinds.add((steps, told and (told[0] == told[1])))
        self.assertEqual(kinds, {(1, False)} | set(product((2, 3), (None, False, True))))

    def test_rows_of_each_sign(self):
        machine = line_machine([(0, 2, 0), (0, -2, 1), (0, 0, (1, 3)), (0, 0, 1), (0, 0, 2), (1, (-1, 2), 1), (-1, 1, 1)])
        for way in product(range(7), repeat=3):
            self.check_way(machine, way)
        self.assert_same([stretch_of(machine, way) for way in ([2, 0], [3, 0], [3, 5], [4, 0], [4, 5], [0, 4], [4])],
                         [(0, 1), (0, 1), (0, 1), None, (0, 1), (0, (1, 2)), (0, 1)])
        self.assert_same([goal_of(machine, way) for way in ([2, 0], [4, 0], [4, 5], [1], [1, 6])],
                         [((2, 3), (2, 3)), None, (0, 0), (-1, 1), (0, 1)])

    def test_long_ways(self):
        self.assert_same(stretch_of(FLIP, [0] * 400), (0, 1))
        self.assert_same(goal_of(FLIP, [0] * 399), (0, 1))
        twice = line_machine([(0, 2, 0), (0, (1, 2), 0), (0, (999, 1000), (1, 1000))])
        self.assert_same(stretch_of(twice, [0] * 399), (0, (1, 2 ** 398)))
        self.assert_same(goal_of(twice, [1] * 400), (0, (1, 2 ** 400)))
        self.assert_same(stretch_of(twice, [2] * 400), (0, 1))
        self.assert_same(goal_of(twice, [2] * 400), (formed(1 - Fraction(999, 1000) ** 400), 1))

    def test_refuses(self):
        for function in (stretch_of, goal_of):
            for value in NO_MACHINES:
                self.assert_raises(("BadMachine", "machine"), function, value, None)
            for value in ([], None, [1], [True], [-1], [0] * 401, "0", {0: 0}, [(0,)]):
                for machine in (FLIP, CROSS):
                    self.assert_raises(("BadWay", "way"), function, machine, value)
            self.assert_raises(("Misfit", "machine"), function, way=[0], machine=CROSS)


class LivingTest(Case):

    def check_apart(self, told):
        self.assertIsInstance(told, tuple)
        some = ends(told)
        self.assertEqual(some, sorted(some))
        for one, other in zip(told, told[1:]):
            self.assertLess(worth(one[1]), worth(other[0]))
        self.assert_same(tuple((formed(worth(low)), formed(worth(high))) for low, high in told), told)

    def test_living(self):
        many = set()
        for machine in lines(62, 60):
            for steps in (1, 2, 3, 4):
                told = living(machine, steps)
                self.assert_same(living(steps=steps, machine=machine), told)
                self.check_apart(told)
                for number in probes(machine, told)[:80]:
                    self.assertIs(makes(machine, steps, number), is_in(told, number), (str(machine), steps, number))
                many.add(len(told))
        self.assertLessEqual({0, 1, 2, 3, 4}, many)

    def test_touching(self):
        """Stretches that touch are one, whether at a corner or not; points stand alone."""
        self.assert_same(living(line_machine([(0, 1, 0), (1, 1, 0), (3, 1, 0)]), 1), ((0, 2), (3, 4)))
        self.assert_same(living(line_machine([(0, 2, 0), (0, 2, -1)]), 2), ((0, 1),))
        self.assert_same(living(line_machine([(0, 3, 0), (0, 3, -2)]), 2), ((0, (1, 3)), ((2, 3), 1)))
        self.assert_same(living(line_machine([(0, 3, 0), (0, 3, -2), (0, 3, -1)]), 9), ((0, 1),))
        self.assert_same(living(line_machine([(0, 1, 1), (2, 1, 0)]), 2), ((0, 0), (1, 1), (2, 3)))

    def test_stretches_in_others(self):
        for triples, told in (([(0, 1, 0), (0, 2, (-1, 2))], ((0, 1),)), ([(0, 2, (-1, 2)), (0, 4, (-3, 2))], (((1, 4), (3, 4)),)),
                              ([(0, 4, (-3, 2)), (0, 8, -3), (0, 4, 0)], ((0, (1, 4)), ((3, 8), (5, 8)))),
                              ([(0, 4, 0), (0, 2, 0), (0, 4, -1), (0, 8, -7)], ((0, (1, 2)), ((7, 8), 1)))):
            self.assert_same(living(line_machine(triples), 2), told)
            self.assert_same(living(line_machine(triples[::-1]), 2), told)

    def test_steps(self):
        self.assert_same(living(FLIP, 60), ((0, 1),))
        slow = line_machine([(0, 1, (1, 59))])
        self.assert_same([living(slow, steps) for steps in (1, 59, 60)], [((0, 1),), ((0, (1, 59)),), ((0, 0),)])
        self.assert_same(living(line_machine([(0, 1, (1, 58))]), 60), ())
        self.assert_same(living(line_machine([(0, 2, 0)]), 60), ((0, (1, 2 ** 59)),))

    def test_too_many(self):
        # By 3 x and 3 x - 2 each step doubles how many there are: 256, and then 512.
        cantor = line_machine([(0, 3, 0), (0, 3, -2)])
        for steps in range(1, 10):
            self.assertEqual(len(living(cantor, steps)), 2 ** (steps - 1))
        for steps in (10, 11, 60):
            self.assert_raises(("TooMany", "stretches", 400), living, cantor, steps)
        # 20 squares, each led over all of them: 400 stretches; and one more square: 420, though 21 die behind 2 steps.
        full = [(2 * at, 39, 2 * at * -39) for at in range(20)]
        self.assertEqual(len(living(line_machine(full), 2)), 400)
        self.assert_raises(("TooMany", "stretches", 400), living, line_machine(full), 3)
        over = full + [(-5, 1, 5)]
        self.assert_raises(("TooMany", "stretches", 400), living, line_machine(over), 2)
        self.assertEqual(len(living(line_machine(over), 1)), 21)

    def test_too_many_for_fewer_steps(self):
        """21 squares are led over 20 others, from which only one point goes on: 420, and then 21 at most."""
        out = [(100 + 2 * at, 39, (100 + 2 * at) * -39) for at in range(21)]
        points = [(2 * at, 1, 500) for at in range(20)]
        machine = line_machine(out + points)
        self.assertEqual(len(living(machine, 1)), 41)
        self.assert_raises(("TooMany", "stretches", 400), living, machine, 2)
        self.assert_raises(("TooMany", "stretches", 400), living, machine, 3)
        fewer = line_machine(out[:20] + points)
        self.assertEqual([len(living(fewer, steps)) for steps in (1, 2, 3)], [40, 400, 0])

    def test_near_the_bound(self):
        """45 pieces whose numbers have six figures, with 361 stretches at each of 60 steps."""
        triples = [(0, (999983, 1000), 0)] + [(2 * at - 100, 1, 100 - 2 * at) for at in range(20)]
        triples += [(2 * at - 300, 60, -100 - 60 * (2 * at - 300)) for at in range(17)]
        machine = line_machine(triples)
        self.assertEqual([len(living(machine, steps)) for steps in (1, 2, 60)], [38, 361, 361])

    def test_refuses(self):
        for value in NO_MACHINES:
            self.assert_raises(("BadMachine", "machine"), living, value, None)
        for value in OFF_NUMBERS + (61,):
            for machine in (FLIP, CROSS):
                self.assert_raises(("BadNumber", "steps"), living, machine, value)
        self.assert_raises(("Misfit", "machine"), living, steps=60, machine=CROSS)


class WaysTest(Case):

    def test_ways(self):
        for machine in lines(63, 60):
            for steps in (1, 2, 3, 4):
                told = tuple(way for way in product(range(len(machine.pieces)), repeat=steps)
                             if stretch_of(machine, way) is not None)
                self.assert_same(ways_of(machine, steps), told)
                self.assert_same(ways_of(steps=steps, machine=machine), told)

    def test_too_many(self):
        ten = line_machine([(0, 0, formed(Fraction(at, 10))) for at in range(10)])
        self.assertEqual([len(ways_of(ten, steps)) for steps in (1, 2, 3)], [10, 100, 1000])
        for steps in (4, 12):
            self.assert_raises(("TooMany", "ways", 1000), ways_of, ten, steps)
        self.assertEqual(len(ways_of(line_machine([(0, -1, 1), (0, 1, 0)]), 9)), 512)
        for steps in (10, 11, 12):
            self.assert_raises(("TooMany", "ways", 1000), ways_of, line_machine([(0, -1, 1), (0, 1, 0)]), steps)
        # 28 pieces lead into 32 others, from which none goes on: 896 ways of two pieces, none of three.
        out = [(5, 0, formed(Fraction(at, 30))) for at in range(28)]
        last = [(0, 0, formed(900 + Fraction(at, 40))) for at in range(32)]
        self.assertEqual([len(ways_of(line_machine(out + last), steps)) for steps in (1, 2, 3)], [60, 896, 0])

    def test_too_many_of_fewer(self):
        """20 pieces lead into 20, those into 3 more: 1200 ways of three pieces, none of four."""
        first = [(5, 0, formed(Fraction(at, 30))) for at in range(20)]
        second = [(0, 0, formed(10 + Fraction(at, 30))) for at in range(20)]
        third = [(10, 0, formed(900 + Fraction(at, 30))) for at in range(3)]
        machine = line_machine(first + second + third)
        self.assertEqual(len(ways_of(machine, 2)), 460)
        for steps in (3, 4, 12):
            self.assert_raises(("TooMany", "ways", 1000), ways_of, machine, steps)
            self.assert_raises(("TooMany", "ways", 1000), comebacks, machine, min(steps, 8))
        self.assertEqual(len(ways_of(line_machine(first + second + third[:2]), 3)), 800)
        self.assert_same(ways_of(line_machine(first + second + third[:2]), 4), ())

    def test_refuses(self):
        for value in NO_MACHINES:
            self.assert_raises(("BadMachine", "machine"), ways_of, value, None)
        for value in OFF_NUMBERS + (13,):
            for machine in (FLIP, CROSS):
                self.assert_raises(("BadNumber", "steps"), ways_of, machine, value)
        self.assert_raises(("Misfit", "machine"), ways_of, steps=12, machine=CROSS)
        self.assertEqual(len(ways_of(FLIP, 12)), 1)


class ComebacksTest(Case):

    def test_comebacks(self):
        kinds = set()
        for machine in lines(64, 80):
            for long in (1, 2, 3):
                told = comebacks(machine, long)
                self.assert_same(comebacks(long=long, machine=machine), told)
                self.assertEqual([way for way, _, _ in told], sorted(way for way, _, _ in told))
                known = {way: (low, high) for way, low, high in told}
                for way in product(range(len(machine.pieces)), repeat=long):
                    here = [known[way]] if way in known else []
                    whole = stretch_of(machine, way)
                    for number in probes(machine, here + ([whole] if whole else [])):
                        self.assertIs(goes(machine, way, number) == number, is_in(here, number), (way, number))
                for way, low, high in told:
                    run = judged_run(machine, [low], way)
                    self.assertTrue(isinstance(run, Goes) and run.points[0] == run.points[-1])
                    kinds.add(low == high)
        self.assertEqual(kinds, {True, False})

    def test_long(self):
        turn = line_machine([(2 * at, 1, 2) for at in range(7)] + [(14, 1, -14)])
        for long in range(1, 8):
            self.assert_same(comebacks(turn, long), ())
        self.assertEqual(len(comebacks(turn, 8)), 8)
        self.assert_same(comebacks(turn, 8)[3], ((3, 4, 5, 6, 7, 0, 1, 2), 6, 7))
        self.assert_same(comebacks(FLIP, 8), (((0,) * 8, 0, 1),))
        self.assert_same(comebacks(FLIP, 7), (((0,) * 7, (1, 2), (1, 2)),))
        self.assert_same(comebacks(HALF, 2), ())

    def test_too_many(self):
        self.assert_raises(("TooMany", "ways", 1000), comebacks, line_machine([(0, 0, (at, 7)) for at in range(1, 5)]), 5)
        self.assertEqual(len(comebacks(line_machine([(0, 0, (at, 7)) for at in range(1, 5)]), 4)), 256)

    def test_refuses(self):
        for value in NO_MACHINES:
            self.assert_raises(("BadMachine", "machine"), comebacks, value, None)
        for value in OFF_NUMBERS + (9,):
            for machine in (FLIP, CROSS):
                self.assert_raises(("BadNumber", "long"), comebacks, machine, value)
        self.assert_raises(("Misfit", "machine"), comebacks, long=8, machine=CROSS)
