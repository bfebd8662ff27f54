"""What becomes of a machine [11]: judged, and its papers."""

from fractions import Fraction
from random import Random

from timesfloor import check_judged, judged as judged_module, machines, nevers, stretches
from timesfloor.check_judged import shows_judged
from timesfloor.judged import Dies, Returns, Stays, Unsure, judged
from timesfloor.machines import Machine, line_machine
from timesfloor.papers import Denial, Paper
from timesfloor.stretches import comebacks, living

from tests.examples_floors import STRETCHES
from tests.examples_judged import CHECK_JUDGED, JUDGED, NEVERS
from tests.helpers import Case, namesakes, raised
from tests.machines_made import formed, is_held, nested_lists, where_led, worth
from tests.test_stretches import CROSS, FLIP, HALF, NEAR, OFF_NUMBERS, goes, is_in, lines
from tests.test_tiles import NO_MACHINES

THIRDS = line_machine([(1, 2, 0), (2, (2, 3), 0), (3, (2, 3), 0)])
TWICE = line_machine([(1, 2, 0)])
CANTOR = line_machine([(0, 3, 0), (0, 3, -2)])
# Eight squares one after another, and back to the first one.
TURN = line_machine([(2 * at, 1, 2) for at in range(7)] + [(14, 1, -14)])
# From each of four squares ten pieces lead into the next one, from the last one to nowhere.
CHAIN = [(2 * at, 0, formed(2 * at + 2 + Fraction(one, 11))) for at in range(4) for one in range(1, 11)]
PAIR = [(20, 1, 2), (22, 1, -2)]
# 420 stretches make two steps, none makes three.
BURST = line_machine([(100 + 2 * at, 39, (100 + 2 * at) * -39) for at in range(21)]
                     + [(2 * at, 1, 500) for at in range(20)])


def told_by_parts(machine, most, long):
    """What judged tells, by what living and comebacks tell."""
    sets = []
    for steps in range(1, most + 1):
        sets.append(living(machine, steps))
        if not sets[-1]:
            return "dies"
    for many in range(1, long + 1):
        if comebacks(machine, many):
            return "returns"
    return "stays" if any(one == other for one, other in zip(sets, sets[1:])) else "unsure"


class JudgedTest(Case):

    def test_examples(self):
        names = {}
        for module in (machines, stretches, judged_module, nevers, check_judged):
            names.update(vars(module))
        for text in (STRETCHES, JUDGED, NEVERS, CHECK_JUDGED):
            self.check_examples(text, names)

    def check(self, word, parts, *args):
        told = judged(*args)
        self.assert_same((told.word, told.parts), (word, parts))
        self.assertIs(bool(told), word in ("returns", "stays"))

    def test_some_machines(self):
        words = set()
        for machine in lines(71, 250):
            for most, long in ((1, 1), (2, 1), (3, 2), (5, 3)):
                word = told_by_parts(machine, most, long)
                told = judged(machine, most, long)
                self.assertEqual(told.word, word)
                self.assertTrue(judged(long=long, machine=machine, most=most) == told)
                self.assertIs(shows_judged(machine, most, long, told), True)
                words.add((word, most))
                if word == "dies":
                    self.assertEqual([living(machine, told.steps) == (), living(machine, told.steps - 1) == ()],
                                     [True, False])
                elif word == "returns":
                    self.assertLessEqual(len(told.way), long)
                    self.assertEqual(goes(machine, told.way, worth(told.number)), worth(told.number))
                elif word == "unsure":
                    self.assert_same(told.parts, (most, long))
        self.assertLessEqual({("dies", 2), ("dies", 5), ("returns", 1), ("returns", 5), ("unsure", 1),
                              ("unsure", 5)}, words)

    def test_dies(self):
        self.check("dies", (3,), TWICE, 3, 8)
        self.check("unsure", (2, 8), TWICE, 2, 8)
        slow = line_machine([(0, 1, (1, 38))])
        self.check("dies", (40,), slow, 40, 8)
        self.check("unsure", (39, 8), slow, 39, 8)
        self.check("unsure", (40, 1), line_machine([(0, 1, (1, 39))]), 40, 1)
        self.check("dies", (2,), line_machine([(0, 0, 5)]), 2, 1)

    def test_returns(self):
        self.check("returns", ((1, 2), (0,)), FLIP, 1, 1)
        self.check("returns", ((1, 2), (0,)), FLIP, 40, 8)
        for most, long in ((1, 8), (40, 8)):
            told = judged(TURN, most, long)
            self.assertEqual((told.word, len(told.way)), ("returns", 8))
        two = judged(line_machine(PAIR), 3, 5)
        self.assertEqual((two.word, len(two.way)), ("returns", 2))

    def test_stays(self):
        for most, long in ((2, 1), (3, 8), (40, 3)):
            told = judged(THIRDS, most, long)
            self.assertEqual(told.word, "stays")
            self.assertTrue(stays_by_probes(THIRDS, told.stretches))
        self.check("stays", (tuple((2 * at, 2 * at + 1) for at in range(8)),), TURN, 2, 7)
        self.check("unsure", (1, 7), TURN, 1, 7)
        self.check("unsure", (1, 8), THIRDS, 1, 8)

    def test_which_comes_first(self):
        """Where a number comes back numbers stay, too; Dies comes ahead of all, though ways may be too many."""
        self.check("returns", ((1, 2), (0,)), FLIP, 5, 1)
        self.check("returns", ((1, 2), (0,)), FLIP, 1, 8)
        self.check("dies", (5,), line_machine(CHAIN), 5, 8)
        self.check("dies", (5,), line_machine(CHAIN), 40, 3)

    def test_what_is_raised(self):
        chain = line_machine(CHAIN)
        self.check("unsure", (4, 2), chain, 4, 2)
        for long in (3, 8):
            self.assert_raises(("TooMany", "ways", 1000), judged, chain, 4, long)
            self.assert_raises(("TooMany", "ways", 1000), judged, chain, 1, long)
        both = line_machine(CHAIN + PAIR)
        told = judged(both, 9, 8)
        self.assertEqual((told.word, len(told.way)), ("returns", 2))
        self.assertEqual(judged(both, 9, 2).word, "returns")
        self.check("stays", (((20, 21), (22, 23)),), both, 6, 1)
        self.check("unsure", (5, 1), both, 5, 1)
        self.assert_raises(("TooMany", "stretches", 400), judged, CANTOR, 10, 1)
        self.assertEqual(judged(CANTOR, 9, 8).word, "returns")
        for most in (2, 3, 40):
            self.assert_raises(("TooMany", "stretches", 400), judged, BURST, most, 1)
        self.check("unsure", (1, 1), BURST, 1, 1)
        # Both are too many: of what living raises it is told first.
        triples = [(at, low, high) for at, low, high in CHAIN[:30]] + [(50, 3, -100), (50, 3, -102)]
        self.assert_raises(("TooMany", "stretches", 400), judged, line_machine(triples), 40, 8)
        worse = [(-3 * at - 5, 0, formed(-3 * at - 8 + Fraction(one, 11))) for at in range(4) for one in range(1, 11)]
        machine = line_machine(worse + [(50, 3, -100), (50, 3, -102)])
        self.assertEqual(raised(lambda: judged(machine, 40, 8)), ("TooMany", "stretches", 400))
        self.assertEqual(judged(machine, 9, 8).word, "returns")

    def test_refuses(self):
        for value in NO_MACHINES:
            self.assert_raises(("BadMachine", "machine"), judged, value, None, None)
        for machine in (FLIP, CROSS):
            for value in OFF_NUMBERS + (41,):
                self.assert_raises(("BadNumber", "most"), judged, machine, value, None)
            for value in OFF_NUMBERS + (9,):
                self.assert_raises(("BadNumber", "long"), judged, long=value, most=40, machine=machine)
        self.assert_raises(("Misfit", "machine"), judged, CROSS, 40, 8)


def led_into(machine, told, number):
    """Whether some piece leads a number to one of some stretches."""
    here = (formed(number),)
    return any(is_in(told, worth(where_led(piece, here)[0])) for piece in machine.pieces if is_held(piece, here))


def stays_by_probes(machine, told):
    """Whether all of these numbers of some stretches stay: all ends, what is led to them, corners, and what is near."""
    marks = {worth(end) for stretch in told for end in stretch}
    for (low,), rows, (shift,) in machine.pieces:
        factor = worth(rows[0][0])
        marks |= {Fraction(low), Fraction(low + 1)}
        if factor:
            marks |= {(worth(end) - worth(shift)) / factor for stretch in told for end in stretch}
    return all(led_into(machine, told, mark + more) for mark in marks for more in (-NEAR, 0, NEAR)
               if is_in(told, mark + more))


class ShowsJudgedTest(Case):

    def check(self, told, *args):
        self.assertIs(shows_judged(*args), told, args[3].parts if isinstance(args[3], Paper) else args[3])

    def test_dies(self):
        for steps in range(-1, 9):
            self.check(3 <= steps <= 6, TWICE, 6, 1, Dies(steps))
            self.check(4 <= steps <= 5, HALF, 5, 8, Dies(steps))
            self.check(False, FLIP, 8, 1, Dies(steps))
        for value in (None, True, "3", 3.0, (3,), [3], (7, 2), 10 ** 299, -10 ** 299):
            self.check(False, TWICE, 40, 1, Dies(value))
        self.check(False, TWICE, 1, 1, Dies(True))
        self.check(True, line_machine(CHAIN), 40, 8, Dies(steps=40))
        self.check(False, line_machine(CHAIN), 4, 8, Dies(5))

    def test_dies_raises(self):
        for steps in (2, 3, 5):
            self.assert_raises(("TooMany", "stretches", 400), shows_judged, BURST, 5, 1, Dies(steps))
        self.check(False, BURST, 5, 1, Dies(1))
        self.check(False, BURST, 5, 1, Dies(6))
        self.assert_raises(("TooMany", "stretches", 400), shows_judged, CANTOR, 40, 1, Dies(10))
        self.check(False, CANTOR, 40, 1, Dies(9))
        self.check(False, CANTOR, 40, 1, Dies(41))

    def test_returns(self):
        for number, way, told in (((1, 2), [0], True), ([1, 2], (0,), True), ((1, 5), [0, 0], True), ((1, 5), [0], False),
                                  (0, [0, 0], True), (0, [0], False), (1, [0] * 400, True), ((1, 2), [0] * 399, True),
                                  (1, [0] * 399, False), (0, [0] * 402, False), (0, [], False), (2, [0, 0], False),
                                  (-1, [0, 0], False), ((2, 4), [0], False), ((1, 2), [1], False), ((1, 2), [True], False),
                                  ((1, 2), [False], False), ((1, 2), 0, False), ((1, 2), None, False), ((1, 2), "0", False),
                                  (True, [0, 0], False), (False, [0, 0], False), ("1/2", [0], False), (None, [0], False),
                                  (0.5, [0], False), ([(1, 2)], [0], False), ((1, 2, 0), [0], False), ((2, 1), [0], False),
                                  ((1, -2), [0], False), ((1, 2), [[0]], False), ((1, 2), [0.0], False), ((1, 2), [-1], False),
                                  ((10 ** 299, 10 ** 299 + 1), [0, 0], True), (10 ** 299, [0, 0], False)):
            self.check(told, FLIP, 1, 1, Returns(number, way))
        self.check(True, TURN, 1, 1, Returns((1, 3), [0, 1, 2, 3, 4, 5, 6, 7]))
        self.check(False, TURN, 1, 1, Returns((1, 3), [0, 1, 2, 3, 4, 5, 6]))
        self.check(True, CANTOR, 40, 8, Returns(way=(0,) * 9, number=0))
        self.check(True, CANTOR, 40, 8, Returns(1, (1,)))
        self.check(True, CANTOR, 40, 8, Returns((3, 4), (1, 0)))

    def test_stays(self):
        self.check(True, THIRDS, 1, 1, Stays([(1, 4)]))
        self.check(True, THIRDS, 1, 1, Stays(stretches=[[1, 4]]))
        right = [((1, 4), (1, 3)), ((2, 3), (3, 4))]
        self.check(True, FLIP, 1, 1, Stays(right))
        self.check(True, FLIP, 1, 1, Stays(nested_lists(right)))
        for value in ([], (), None, True, 0, "stays", {}, right[::-1], right[:1], right[1:], right + right, right[0], [right],
                      [((1, 4), (2, 3)), ((1, 3), (3, 4))], [(0, (1, 2)), ((1, 2), 1)], [(0, (1, 2)), ((1, 3), 1)],
                      [((3, 4), (1, 4))], [(0, 2)], [(-1, 1)], [(0,)], [(0, 1, 1)], [0, 1], [None], [(0, True)], [(False, 1)],
                      [(0, (2, 2))], [((2, 8), (3, 4))], [("0", "1")], [(0, 1.0)], [{0: 1, 1: 2}], [(1, 0)], [(5, 6)],
                      [((1, 4), (3, 4)), ((3, 4), (3, 4))], [(0, 0)], [(0, (1, 3)), ((2, 3), (3, 4))]):
            self.check(False, FLIP, 40, 8, Stays(value))
        for value in ([(0, 1)], [((1, 2), (1, 2))], [(0, 0), (1, 1)], [(0, (1, 3)), ((2, 3), 1)], [((1, 4), (3, 4))],
                      [(0, 0), ((1, 2), (1, 2)), (1, 1)], [[0, 0], [[1, 3], (2, 3)], (1, 1)]):
            self.check(True, FLIP, 40, 8, Stays(value))

    def test_stays_by_several_pieces(self):
        machine = line_machine([(0, 2, 0), (0, 2, -1), (3, 0, (1, 2)), (4, 0, 7)])
        for value, told in (([(0, 1)], True), ([(0, (1, 2)), ((2, 3), 1)], False), ([(3, 4)], False), ([(0, 1), (3, 4)], True),
                            ([((1, 2), (1, 2)), (3, 4)], False), ([((1, 3), (1, 3)), ((2, 3), (2, 3))], True),
                            ([(0, 0), ((1, 2), (1, 2)), (1, 1)], True), ([(0, 1), ((7, 2), (9, 2))], False),
                            ([(0, 0), (1, 1)], True), ([((1, 3), (1, 3))], False), ([(4, 4)], False)):
            self.check(told, machine, 1, 1, Stays(value))

    def test_stays_by_probes(self):
        random, met = Random(73), {True: 0, False: 0}
        for machine in lines(74, 250):
            some = sorted({formed(Fraction(random.randrange(-8, 9), random.choice((1, 2, 3)))) for _ in range(6)}, key=worth)
            told = list(zip(some[::2], some[1::2]))
            whole = [stretch for steps in (2, 4, 6) for stretch in [living(machine, steps)]
                     if stretch and len(stretch) < 40]
            for value in [told, [(one, one) for one in some]] + whole:
                if value:
                    so = stays_by_probes(machine, value)
                    self.check(so, machine, 1, 1, Stays(value))
                    met[so] += 1
        self.assertGreater(min(met.values()), 20)

    def test_many_stretches(self):
        still = line_machine([(0, 1, 0)])
        points = [(formed(Fraction(at, 1000)),) * 2 for at in range(401)]
        self.check(True, still, 1, 1, Stays(points[:400]))
        self.check(False, still, 1, 1, Stays(points))
        self.check(False, still, 1, 1, Stays(points[:399] + [(1, 2)]))
        wide = line_machine([(0, formed(Fraction(at + 8, 7)), 0) for at in range(45)])
        some = [(low, formed(worth(low) + Fraction(1, 2000))) for low, _ in points[:400]]
        self.assertIs(shows_judged(wide, 1, 1, Stays(some)), False)
        self.assertIs(shows_judged(still, 1, 1, Stays(some)), True)

    def test_unsure(self):
        self.check(True, HALF, 3, 8, Unsure(3, 8))
        self.check(False, HALF, 4, 8, Unsure(4, 8))
        for most, long in ((2, 8), (3, 7), (8, 3), (3, 9), (True, 8), (3, True), (3.0, 8), ("3", 8), (None, None), ([3], 8),
                           (4, 8), ((3, 8), None)):
            self.check(False, HALF, 3, 8, Unsure(most, long))
        self.check(True, HALF, 1, 1, Unsure(long=1, most=1))
        self.check(False, HALF, 1, 1, Unsure(True, 1))
        self.check(False, HALF, 1, 1, Unsure(1, True))
        self.check(False, FLIP, 1, 1, Unsure(1, 1))
        self.check(False, THIRDS, 3, 1, Unsure(3, 1))

    def test_unsure_raises(self):
        chain = line_machine(CHAIN)
        self.check(True, chain, 4, 2, Unsure(4, 2))
        self.assert_raises(("TooMany", "ways", 1000), shows_judged, chain, 4, 3, Unsure(4, 3))
        self.assert_raises(("TooMany", "stretches", 400), shows_judged, BURST, 2, 1, Unsure(2, 1))
        for value in (Unsure(3, 3), Unsure(4, 2), Unsure(4, True), Stays([(0, 1)]), Returns(0, [0]), None, Dies(4), Dies(5)):
            self.check(False, chain, 4, 3, value)
        for value in (Unsure(1, 1), Stays([(0, 1)]), Returns(0, [0]), None, 5):
            self.check(False, BURST, 2, 1, value)

    def test_other_kinds(self):
        for machine, most, long in ((TWICE, 5, 1), (FLIP, 5, 1), (THIRDS, 5, 1), (HALF, 3, 2)):
            told = judged(machine, most, long)
            self.check(True, machine, most, long, told)
            for value in namesakes(told) + [None, True, False, told.word, told.parts, (told.word, *told.parts), [told], object(),
                                            Paper(told.word, *told.parts), Denial(told.word, *told.parts), type(told)]:
                self.check(False, machine, most, long, value)

    def test_refuses(self):
        for value in NO_MACHINES:
            self.assert_raises(("BadMachine", "machine"), shows_judged, value, None, None, None)
        for machine in (FLIP, CROSS):
            for value in OFF_NUMBERS + (41,):
                self.assert_raises(("BadNumber", "most"), shows_judged, machine, value, None, None)
            for value in OFF_NUMBERS + (9,):
                self.assert_raises(("BadNumber", "long"), shows_judged, value=None, long=value, most=1, machine=machine)
        self.assert_raises(("Misfit", "machine"), shows_judged, Machine(2, CROSS.pieces), 40, 8, None)
