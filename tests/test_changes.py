"""Machines that are made of others [5]."""

from random import Random

from timesfloor import changes, machines
from timesfloor.changes import joined, mirrored, moved, scaled
from timesfloor.machines import Machine, line_machine, nexts
from timesfloor.runs import first_run, judged_run

from tests.examples_machines import CHANGES, MACHINES
from tests.helpers import Case
from tests.machines_made import formed, nested_lists, some_machine, some_machines, some_piece, some_point, worth

NO_MACHINES = (None, "1 / 1 2 0", 1, True, (1, (((1,), ((2,),), (0,)),)), [])
MILLION = 1000000


def shifted(point, shift):
    return tuple(formed(worth(number) + more) for number, more in zip(point, shift))


def turned(point):
    return tuple(formed(-worth(number)) for number in point)


class ChangesTest(Case):

    def test_examples(self):
        names = {**vars(machines), **vars(changes)}
        self.check_examples(MACHINES, names)
        self.check_examples(CHANGES, names)

    def same_runs(self, machine, changed, change, random):
        """Points are led by both, and run by the same ways, if change makes the points of one those of the other."""
        for _ in range(20):
            point = some_point(random, machine.wide)
            told = tuple((number, change(goal)) for number, goal in nexts(machine, point))
            self.assert_same(nexts(changed, change(point)), told)
            way, points = first_run(machine, point, 6)
            self.assert_same(first_run(changed, change(point), 6), (way, tuple(change(place) for place in points)))
            if way:
                self.assertEqual(judged_run(changed, change(point), way).points, tuple(map(change, points)))


class MovedTest(ChangesTest):

    def test_runs(self):
        random = Random(11)
        for machine in some_machines(12):
            shift = [random.randrange(-20, 21) for _ in range(machine.wide)]
            changed = moved(machine, shift)
            self.same_runs(machine, changed, lambda point: shifted(point, shift), random)
            self.assertTrue(moved(machine=machine, shift=tuple(shift)) == changed)
            self.assertTrue(moved(changed, [-more for more in shift]) == machine)
            self.assertTrue(moved(machine, [0] * machine.wide) == machine)

    def test_bounds_of_corners(self):
        for wide in (1, 2):
            still = [[int(at == place) for place in range(wide)] for at in range(wide)]
            for at in range(wide):
                one = Machine(wide, [([4] * wide, still, [0] * wide), ([-7] * wide, still, [0] * wide)])
                for more, told in ((996, True), (997, False), (-993, True), (-994, False), (10 ** 299, False)):
                    shift = [more if place == at else 0 for place in range(wide)]
                    if told:
                        self.assertEqual(moved(one, shift).pieces[0][0][at], 4 + more)
                    else:
                        self.assert_raises(("Misfit", "shift"), moved, one, shift)

    def test_bounds_of_shifts(self):
        for factor, number, shift, told in (
                (2, MILLION, 1, MILLION - 1), (2, MILLION, -1, None), (2, MILLION - 1, -1, MILLION),
                (0, -MILLION, 1, 1 - MILLION), (0, -MILLION, -1, None), (0, 1 - MILLION, -1, -MILLION),
                (MILLION, 0, 1, 1 - MILLION), (MILLION, 0, -1, MILLION - 1), (MILLION, 0, 2, None),
                ((1, 999), (1, 2), 1, None), ((1, 500), (1, 2), 1, (749, 500)), ((1, 500), (1, 3), 1, None),
                ((1, 1000), 0, 1, (999, 1000)), ((1, 3), (MILLION, 3), 2, None), ((1, 3), (MILLION, 3), -1, (999998, 3)),
                ((1, 3), (MILLION, 3), 1, 333334), ((4, 3), (-MILLION, 3), -2, (-999998, 3)),
                ((4, 3), (-MILLION, 3), 4, None), ((4, 3), (-MILLION, 3), 2, -333334)):
            one = line_machine([(0, factor, number)])
            if told is None:
                self.assert_raises(("Misfit", "shift"), moved, one, [shift])
            else:
                self.assert_same(moved(one, [shift]).pieces, (((shift,), ((factor,),), (told,)),))
        square = Machine(2, [((0, 0), ((1, 1), (0, 1)), (MILLION, 0))])
        self.assert_same(moved(square, (5, 1)).pieces, (((5, 1), ((1, 1), (0, 1)), (MILLION - 1, 0)),))
        self.assert_raises(("Misfit", "shift"), moved, square, (5, -1))

    def test_refuses(self):
        for machine in (line_machine([(1000, 1, 0)]), Machine(2, [((1000, 0), ((1, 0), (0, 1)), (0, 0))])):
            good = [1] * machine.wide
            off = [[], (), [1] * (3 - machine.wide), [1, 1, 1], None, 1, "1", "11", {0: 1}, {0, 1}, range(2), True]
            off += [good[:at] + [item] + good[at + 1:] for at in range(machine.wide)
                    for item in (True, None, "1", 1.0, (1, 2), [1])]
            for value in off:
                self.assert_raises(("BadNumber", "shift"), moved, machine, value)
            self.assert_raises(("Misfit", "shift"), moved, machine, good)
        for value in NO_MACHINES:
            self.assert_raises(("BadMachine", "machine"), moved, value, None)

    def test_nothing_changes(self):
        machine, shift = line_machine([(1, 2, 0)]), [3]
        moved(machine, shift), mirrored(machine), scaled(machine, 2), joined(machine, machine)
        self.assertEqual((str(machine), shift), ("1 / 1 2 0", [3]))


class MirroredTest(ChangesTest):

    def test_runs(self):
        random = Random(13)
        for machine in some_machines(14):
            changed = mirrored(machine)
            self.same_runs(machine, changed, turned, random)
            self.assertTrue(mirrored(machine=changed) == machine)

    def test_bounds(self):
        self.assertEqual(str(mirrored(line_machine([(999, 2, MILLION), (-1000, (1, 2), (-1, 1000))]))),
                         f"1 / -1000 2 -{MILLION} / 999 1/2 1/1000")
        square = Machine(2, [((-1000, 999), ((1, -2), (0, 1)), (0, (1, 2)))])
        self.assertEqual(str(mirrored(square)), "2 / 999 -1000 1 -2 0 1 0 -1/2")

    def test_refuses(self):
        for machine in (line_machine([(0, 1, 0), (1000, 1, 0)]), Machine(2, [((0, 1000), ((1, 0), (0, 1)), (0, 0))]),
                        Machine(2, [((1000, 0), ((1, 0), (0, 1)), (0, 0))])):
            self.assert_raises(("Misfit", "machine"), mirrored, machine)
        for value in NO_MACHINES:
            self.assert_raises(("BadMachine", "machine"), mirrored, value)


class ScaledTest(ChangesTest):

    def test_pieces(self):
        told = scaled(line_machine([(-1, (1, 2), (1, 6)), (5, 0, -1)]), 3)
        self.assertEqual(str(told), "1 / -3 1/2 1/2 / -2 1/2 1/2 / -1 1/2 1/2 / 15 0 -3 / 16 0 -3 / 17 0 -3")
        self.assertTrue(scaled(by=2, machine=scaled(line_machine([(0, 1, 1)]), by=3))
                        == scaled(line_machine([(0, 1, 1)]), 6))

    def test_runs(self):
        random = Random(15)
        for _ in range(30):
            machine, by = some_machine(random, 1, 6), random.randrange(2, 7)
            changed = scaled(machine, by)
            self.assertEqual(len(changed.pieces), by * len(machine.pieces))
            for _ in range(20):
                point = some_point(random, 1)
                goals = {(number, formed(by * worth(goal[0]))) for number, goal in nexts(machine, point)}
                more = {(number // by, goal[0]) for number, goal in nexts(changed, (formed(by * worth(point[0])),))}
                self.assertEqual(more, goals)
                way, points = first_run(machine, point, 5)
                grown = tuple((formed(by * worth(number)),) for (number,) in points)
                self.assert_same(first_run(changed, grown[0], 5)[1], grown)

    def test_number_of_pieces(self):
        for by, most in ((2, 30), (3, 20), (4, 15), (5, 12), (6, 10)):
            some = [(low, 1, 0) for low in range(most + 1)]
            self.assertEqual(len(scaled(line_machine(some[:most]), by).pieces), 60)
            self.assert_raises(("TooMany", "pieces", 60), scaled, line_machine(some), by)

    def test_bounds(self):
        for low, number, by, told in (
                (500, 0, 2, False), (499, 0, 2, True), (-500, 0, 2, True), (-501, 0, 2, False), (333, 0, 3, False),
                (332, 0, 3, True), (-333, 0, 3, True), (-334, 0, 3, False), (0, 500000, 2, True), (0, 500001, 2, False),
                (0, -500000, 2, True), (0, -500001, 2, False), (0, (MILLION, 3), 3, True), (0, (MILLION, 3), 2, False),
                (0, (MILLION - 1, 1000), 2, True), (0, (-MILLION, 7), 6, False)):
            one = line_machine([(1, 1, 0), (low, 1, number)])
            if told:
                self.assert_same(scaled(one, by).pieces[-1],
                                 ((by * low + by - 1,), ((1,),), (formed(by * worth(number)),)))
            else:
                self.assert_raises(("Misfit", "by"), scaled, one, by)

    def test_refuses(self):
        line, square = line_machine([(1, 2, 0)]), Machine(2, [((0, 0), ((1, 0), (0, 1)), (0, 0))])
        for value in (0, 1, 7, -2, True, None, "2", 2.0, (2,), [3], (5, 2), 10 ** 299):
            self.assert_raises(("BadNumber", "by"), scaled, line, value)
            self.assert_raises(("BadNumber", "by"), scaled, square, value)
        self.assert_raises(("Misfit", "machine"), scaled, square, 2)
        for value in NO_MACHINES:
            self.assert_raises(("BadMachine", "machine"), scaled, value, 7)
        many = Machine(2, [((low, 1000), ((1, 0), (0, 1)), (0, 0)) for low in range(31)])
        self.assert_raises(("Misfit", "machine"), scaled, many, 2)
        far = line_machine([(1000, 1, low) for low in range(31)])
        self.assert_raises(("TooMany", "pieces", 60), scaled, far, 2)


class JoinedTest(ChangesTest):

    def test_pieces(self):
        random = Random(16)
        for wide in (1, 2):
            pieces = list(dict.fromkeys(some_piece(random, wide) for _ in range(20)))
            one, other = Machine(wide, pieces[:6]), Machine(wide, nested_lists(pieces[3:9][::-1]))
            for told in (joined(one, other), joined(other=other, one=one)):
                self.assert_same([told.wide, told.pieces], [wide, tuple(pieces[:6] + pieces[6:9][::-1])])
            self.assertTrue(joined(one, one) == one)
            self.assertTrue(joined(one, Machine(wide, pieces[2:4])) == one)

    def test_number_of_pieces(self):
        some = line_machine([(low, 1, 0) for low in range(40)])
        self.assertEqual(len(joined(some, line_machine([(low, 1, 0) for low in range(20, 60)])).pieces), 60)
        self.assert_raises(("TooMany", "pieces", 60), joined, some, line_machine([(low, 1, 0) for low in range(21, 61)]))
        full = line_machine([(low, 1, 0) for low in range(60)])
        self.assertTrue(joined(full, some) == full)
        self.assertEqual(len(joined(some, full).pieces), 60)
        self.assert_raises(("TooMany", "pieces", 60), joined, full, line_machine([(0, 1, 1)]))

    def test_refuses(self):
        line, square = line_machine([(1, 2, 0)]), Machine(2, [((0, 0), ((1, 0), (0, 1)), (0, 0))])
        for value in NO_MACHINES:
            self.assert_raises(("BadMachine", "one"), joined, value, line)
            self.assert_raises(("BadMachine", "one"), joined, value, value)
            self.assert_raises(("BadMachine", "other"), joined, square, value)
        self.assert_raises(("Misfit", "other"), joined, line, square)
        self.assert_raises(("Misfit", "other"), joined, square, line)
        full = line_machine([(low, 1, 0) for low in range(60)])
        self.assert_raises(("Misfit", "other"), joined, full, square)
