"""Machines [5]: what makes one, and where their pieces lead points."""

from random import Random

from timesfloor import machines
from timesfloor.machines import Machine, holds, led, line_machine, nexts

from tests.examples_machines import MACHINES
from tests.helpers import Case
from tests.machines_made import is_held, nested_lists, some_machines, some_piece, some_point, where_led

LINE = ((1,), ((2,),), (0,))
PLANE = ((0, -1), ((0, 1), ((1, 2), 0)), (3, (1, 2)))
NO_INTEGERS = (True, False, None, "1", 1.0, (1, 2), [1], (), 1001, -1001, 10 ** 299)
NO_SMALL = (True, False, None, "1", "1/2", 1.0, (), [1], (2, 4), (1, 1), (1, 0), (1, -2), (True, 2), (1, 2, 3),
            1000001, -1000001, (1000001, 2), (-1000001, 2), (1, 1001), 10 ** 299)
NO_LISTS = (None, 1, True, "ab", "", b"ab", {}, {0: 1}, {0}, range(2), 0.5)


def replaced(value, path, item):
    """The nested lists of a value, with the item at a path replaced."""
    value = nested_lists(value)
    at = value
    for step in path[:-1]:
        at = at[step]
    at[path[-1]] = item
    return value


def off_pieces(piece):
    """Pieces in each of which one part is off."""
    wide = len(piece[0])
    lists = [(0,), (1,), (2,)] + [(1, row) for row in range(wide)]
    for path in lists:
        for item in NO_LISTS:
            yield replaced(piece, path, item)
        part = piece[path[0]] if len(path) == 1 else piece[1][path[1]]
        yield replaced(piece, path, list(part)[:-1])
        yield replaced(piece, path, list(part) + [part[0]])
    for at in range(wide):
        for item in NO_INTEGERS:
            yield replaced(piece, (0, at), item)
        for item in NO_SMALL:
            yield replaced(piece, (2, at), item)
            for row in range(wide):
                yield replaced(piece, (1, row, at), item)
    yield from NO_LISTS
    yield from (list(piece[:2]), list(piece) + [0], [], [piece[1], piece[0], piece[2]])


class MachineTest(Case):

    def test_examples(self):
        self.check_examples(MACHINES, dict(vars(machines)))

    def test_attributes(self):
        for wide, piece in ((1, LINE), (2, PLANE)):
            for pieces in ([piece], (piece,), nested_lists([piece]), (nested_lists(piece),)):
                for machine in (Machine(wide, pieces), Machine(pieces=pieces, wide=wide)):
                    self.assert_same([machine.wide, machine.pieces], [wide, (piece,)])

    def test_bounds(self):
        most = 1000000
        for low in (-1000, 1000):
            for number in (most, -most, (most, 999), (-1, 1000)):
                piece = ((low,), ((number,),), (number,))
                self.assert_same(Machine(1, [piece]).pieces, (piece,))
                square = ((low, -low), ((number, 0), (1, number)), (0, number))
                self.assert_same(Machine(2, [square]).pieces, (square,))
        for low in (-1001, 1001):
            self.assert_raises(("BadMachine", "pieces"), Machine, 1, [((low,), ((1,),), (0,))])
            self.assert_raises(("BadMachine", "pieces"), Machine, 2, [((0, low), PLANE[1], (0, 0))])

    def test_number_of_pieces(self):
        for wide in (1, 2):
            random = Random(wide)
            some = list(dict.fromkeys(some_piece(random, wide) for _ in range(90)))
            for many in (1, 2, 59, 60):
                self.assert_same(Machine(wide, some[:many]).pieces, tuple(some[:many]))
            for many in (0, 61, 62):
                self.assert_raises(("BadMachine", "pieces"), Machine, wide, some[:many])
                self.assert_raises(("BadMachine", "pieces"), Machine, wide, tuple(some[:many]))

    def test_wide(self):
        for value in (0, 3, -1, True, False, None, "1", 1.0, (1,), [2], 10 ** 299):
            self.assert_raises(("BadMachine", "wide"), Machine, value, [LINE])
            self.assert_raises(("BadMachine", "wide"), Machine, value, None)
        self.assert_raises(("BadMachine", "pieces"), Machine, 2, [LINE])
        self.assert_raises(("BadMachine", "pieces"), Machine, 1, [PLANE])

    def test_parts_that_are_off(self):
        for wide, good, piece in ((1, ((5,), ((1,),), (0,)), LINE), (2, ((5, 5), ((1, 0), (0, 1)), (0, 0)), PLANE)):
            for off in off_pieces(piece):
                self.assert_raises(("BadMachine", "pieces"), Machine, wide, [off])
                self.assert_raises(("BadMachine", "pieces"), Machine, wide, (good, off))

    def test_no_lists_of_pieces(self):
        for value in NO_LISTS + ([], (), LINE, PLANE, iter([LINE]), {LINE: LINE}):
            self.assert_raises(("BadMachine", "pieces"), Machine, 1, value)
            self.assert_raises(("BadMachine", "pieces"), Machine, pieces=value, wide=2)

    def test_told_twice(self):
        for wide, piece in ((1, LINE), (2, PLANE)):
            other = replaced(piece, (0, 0), 7)
            for pieces in ([piece, piece], [piece, nested_lists(piece)], (nested_lists(piece), other, piece)):
                self.assert_raises(("BadMachine", "pieces"), Machine, wide, pieces)
            self.assertEqual(len(Machine(wide, [piece, other]).pieces), 2)
        halves = [((1,), (([1, 2],),), (0,)), ((1,), (((1, 2),),), [0])]
        self.assert_raises(("BadMachine", "pieces"), Machine, 1, halves)

    def test_nothing_changes_behind(self):
        pieces = nested_lists([PLANE])
        machine = Machine(2, pieces)
        kept = nested_lists(pieces)
        self.assert_same(pieces, kept)
        pieces[0][0][0], pieces[0][1][0][0], pieces[0][1][1][0][0], pieces[0][2][1][1] = 9, 9, 9, 9
        pieces.append(None)
        self.assert_same(machine.pieces, (PLANE,))
        self.assertEqual(str(machine), "2 / 0 -1 0 1 1/2 0 3 1/2")

    def test_equal(self):
        one, other = Machine(1, [LINE, ((2,), ((2,),), (0,))]), Machine(1, nested_lists([LINE, ((2,), ((2,),), (0,))]))
        self.assertIs(one == other, True)
        self.assertIs(one != other, False)
        unlike = [one, Machine(1, [LINE]), Machine(1, one.pieces[::-1]), Machine(2, [PLANE]), line_machine([(1, 2, 1)]),
                  line_machine([(1, 3, 0)]), line_machine([(0, 2, 0)])]
        for at, machine in enumerate(unlike):
            for place, value in enumerate(unlike):
                self.assertIs(machine == value, at == place)
                self.assertIs(machine != value, at != place)
            for value in (None, str(machine), machine.pieces, (machine.wide, machine.pieces), True, object()):
                self.assertIs(machine == value, False)

    def test_line_machine(self):
        triples = [(1, 2, 0), [-3, [1, 2], (-5, 3)], (1, 2, 1)]
        told = Machine(1, [((1,), ((2,),), (0,)), ((-3,), (((1, 2),),), ((-5, 3),)), ((1,), ((2,),), (1,))])
        for value in (triples, tuple(triples)):
            self.assertTrue(line_machine(value) == told)
            self.assertTrue(line_machine(triples=value) == told)
        self.assertEqual(len(line_machine([(low, 1, 0) for low in range(60)]).pieces), 60)

    def test_line_machine_refuses(self):
        error = ("BadMachine", "triples")
        for value in NO_LISTS + ([], (), (1, 2, 0), [(low, 1, 0) for low in range(61)], [(1, 2, 0), [1, 2, 0]],
                                 [(1, 2)], [(1, 2, 0, 0)], [()], [None], ["abc"], [{1: 2, 2: 3, 4: 5}], [LINE]):
            self.assert_raises(error, line_machine, value)
        for value in NO_INTEGERS:
            self.assert_raises(error, line_machine, [(0, 1, 0), (value, 2, 0)])
        for value in NO_SMALL:
            self.assert_raises(error, line_machine, [(0, value, 0)])
            self.assert_raises(error, line_machine, [(0, 1, value)])


class PointsTest(Case):

    def test_within_and_beside(self):
        one = line_machine([(-1, (1, 2), 3)])
        for number, told in ((-1, True), (0, True), ((-1, 2), True), ((-1, 10 ** 298), True), ((1, 10 ** 298), False),
                             (1, False), (-2, False), ((-3, 2), False), ((-10 ** 298 - 1, 10 ** 298), False),
                             (10 ** 299, False)):
            self.assertIs(holds(one, 0, [number]), told, number)
            self.assertIs(holds(machine=one, piece=0, point=(number,)), told, number)

    def test_sides_and_corners(self):
        square = Machine(2, [((2, -3), ((1, 0), (0, 1)), (0, 0))])
        for first, at in ((1, False), ((3, 2), False), (2, True), ((5, 2), True), (3, True), ((7, 2), False)):
            for second, place in ((-4, False), (-3, True), ((-5, 2), True), (-2, True), ((-3, 2), False), (2, False)):
                self.assertIs(holds(square, 0, (first, second)), at and place)
                told = ((0, (first, second)),) if at and place else ()
                self.assert_same(nexts(square, [first, second]), told)

    def test_some_machines(self):
        random = Random(5)
        for machine in some_machines(6):
            for _ in range(30):
                point = some_point(random, machine.wide)
                told = []
                for number, piece in enumerate(machine.pieces):
                    held = is_held(piece, point)
                    self.assertIs(holds(machine, number, point), held)
                    if held:
                        told.append((number, where_led(piece, point)))
                        self.assert_same(led(machine, number, nested_lists(point)), told[-1][1])
                        self.assert_same(led(point=point, machine=machine, piece=number), told[-1][1])
                    else:
                        self.assert_raises(("Misfit", "point"), led, machine, number, point)
                self.assert_same(nexts(machine, point), tuple(told))
                self.assert_same(nexts(point=nested_lists(point), machine=machine), tuple(told))

    def test_no_machines(self):
        for value in (None, "1 / 1 2 0", 1, True, (1, (LINE,)), [LINE], Machine):
            self.assert_raises(("BadMachine", "machine"), holds, value, None, None)
            self.assert_raises(("BadMachine", "machine"), led, value, None, None)
            self.assert_raises(("BadMachine", "machine"), nexts, value, None)

    def test_no_pieces(self):
        line = line_machine([(1, 2, 0), (2, 2, 0)])
        for value in (-1, 2, 10 ** 299, True, False, None, "0", 0.0, (0,), [0]):
            for function in (holds, led):
                self.assert_raises(("BadNumber", "piece"), function, line, value, [1])
                self.assert_raises(("BadNumber", "piece"), function, line, value, None)

    def test_no_points(self):
        for machine in (line_machine([(0, 1, 0)]), Machine(2, [((0, 0), ((1, 0), (0, 1)), (0, 0))])):
            good = [1] * machine.wide
            off = [[], (), [1] * (3 - machine.wide), [1] * 3, [1] * 4, None, 1, True, "1", "11", {0: 1}, {0, 1}, range(1)]
            off += [good[:at] + [item] + good[at + 1:] for at in range(machine.wide) for item in
                    (True, None, "1", 1.0, (2, 4), (1, 1), (0, 2), (1, 0), (1, -2), (True, 2), (), (1,), (1, 2, 3))]
            for value in off:
                self.assert_raises(("BadPoint", "point"), holds, machine, 0, value)
                self.assert_raises(("BadPoint", "point"), led, machine, 0, value)
                self.assert_raises(("BadPoint", "point"), nexts, machine, value)

    def test_points_stay(self):
        machine = Machine(2, [PLANE])
        point = [[1, 2], [-1, 3]]
        holds(machine, 0, point), led(machine, 0, point), nexts(machine, point)
        self.assert_same(point, [[1, 2], [-1, 3]])
