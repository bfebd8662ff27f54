"""Ways and runs [6]."""

from random import Random

from timesfloor import check_runs, machines, runs
from timesfloor.check_runs import shows_run
from timesfloor.machines import Machine, line_machine
from timesfloor.papers import Denial, Paper
from timesfloor.runs import Goes, Stops, first_run, judged_run, through

from tests.examples_machines import CHECK_RUNS, MACHINES, RUNS
from tests.helpers import Case, namesakes
from tests.machines_made import formed, is_held, nested_lists, some_machines, some_point, where_led, worth

FLIP = line_machine([(0, -1, 1), (0, 1, 0), (3, (1, 2), 0)])
SQUARE = Machine(2, [((0, 0), ((0, 1), (1, 0)), (0, 0)), ((1, 0), (((1, 2), 0), (0, 1)), (0, (1, 3)))])
NO_MACHINES = (None, "1 / 1 2 0", 1, True, [], (1, ()))
OFF_POINTS = (None, 1, True, "1", "11", (), [], [1] * 3, {0: 1}, {0}, [True] * 2, [True], [(2, 4)], [None], ["1"],
              [(2, 4), 1], [1, (1, 1)], [1.0])
OFF_WAYS = ([], (), None, 0, True, "0", "", {0: 0}, {0}, range(1), [0] * 401, (0,) * 401, [0, -1], [0, 9], [0, True],
            [False], [None], ["0"], [0.0], [(0,)], [[0]], [10 ** 299])


def run_of(machine, point, way):
    """The points of a run, and whether the point goes by the whole way."""
    points = [point]
    for number in way:
        if not is_held(machine.pieces[number], points[-1]):
            return points, False
        points.append(where_led(machine.pieces[number], points[-1]))
    return points, True


def some_ways(random, machine):
    """A point with a way that often goes far, and one of any pieces."""
    point = some_point(random, machine.wide, 2)
    here, way = point, []
    while len(way) < 6:
        held = [number for number, piece in enumerate(machine.pieces) if is_held(piece, here)]
        if not held:
            break
        way.append(random.choice(held))
        here = where_led(machine.pieces[way[-1]], here)
    other = random.randrange(len(machine.pieces))
    return point, [way + [other], [other] + way] + ([way] if way else [])


class JudgedRunTest(Case):

    def test_examples(self):
        names = {**vars(machines), **vars(runs), **vars(check_runs)}
        for text in (MACHINES, RUNS, CHECK_RUNS):
            self.check_examples(text, names)

    def test_some_machines(self):
        random, went = Random(21), 0
        for machine in some_machines(22, 400):
            point, ways = some_ways(random, machine)
            for way in ways:
                points, goes = run_of(machine, point, way)
                told = judged_run(machine, nested_lists(point), tuple(way))
                if goes:
                    self.assertIsInstance(told, Goes)
                    self.assert_same(told.points, tuple(points))
                    went += 1
                else:
                    self.assertIsInstance(told, Stops)
                    self.assert_same((told.step, told.point), (len(points) - 1, points[-1]))
                self.assertTrue(judged_run(way=way, machine=machine, point=point) == told)
                self.assertIs(shows_run(machine, point, way, told), True)
        self.assertGreater(went, 60)

    def test_long_ways(self):
        for way in ([0] * 400, (1, 0) * 200):
            told = judged_run(FLIP, [(1, 3)], way)
            self.assertEqual(len(told.points), 401)
            self.assert_same(told.points, tuple(run_of(FLIP, ((1, 3),), way)[0]))
        self.assert_same(judged_run(FLIP, [(1, 3)], [0]).points, (((1, 3),), ((2, 3),)))
        self.assert_same(judged_run(SQUARE, [0, 1], [0] * 399 + [1]).points[-1], ((1, 2), (1, 3)))

    def test_numbers_that_grow(self):
        slow = line_machine([(0, (999, 1000), 0)])
        told = judged_run(slow, [1], [0] * 400)
        self.assert_same(told.points[-1], ((999 ** 400, 1000 ** 400),))

    def test_stops(self):
        for way, step, point in (([2], 0, (0,)), ([2] + [0] * 399, 0, (0,)), ([0, 1, 2, 1, 1], 2, (1,)),
                                 ([0] * 399 + [2], 399, (1,)), ([0, 2], 1, (1,))):
            told = judged_run(FLIP, [0], way)
            self.assertIsInstance(told, Stops)
            self.assert_same(told.parts, (step, point))
            self.assertIs(bool(told), False)

    def test_refuses(self):
        for function in (judged_run, lambda machine, point, way: shows_run(machine, point, way, None)):
            for value in NO_MACHINES:
                self.assert_raises(("BadMachine", "machine"), function, value, None, None)
            for machine in (FLIP, SQUARE):
                for value in OFF_POINTS + ([1] * (3 - machine.wide),):
                    self.assert_raises(("BadPoint", "point"), function, machine, value, None)
                for value in OFF_WAYS:
                    self.assert_raises(("BadWay", "way"), function, machine, [5] * machine.wide, value)
                self.assert_raises(("BadWay", "way"), function, machine, [0] * machine.wide, [len(machine.pieces)])

    def test_nothing_changes(self):
        point, way = [[1, 3]], [0, 0]
        told = judged_run(FLIP, point, way)
        point[0][0], way[0] = 2, 2
        self.assert_same(told.points, (((1, 3),), ((2, 3),), ((1, 3),)))
        self.assert_same([point, way], [[[2, 3]], [2, 0]])


class FirstRunTest(Case):

    def first(self, machine, point, steps):
        way, points = [], [point]
        while len(way) < steps:
            held = [number for number, piece in enumerate(machine.pieces) if is_held(piece, points[-1])]
            if not held:
                break
            way.append(held[0])
            points.append(where_led(machine.pieces[held[0]], points[-1]))
        return tuple(way), tuple(points)

    def test_some_machines(self):
        random = Random(23)
        for machine in some_machines(24, 60):
            for steps in (0, 1, 2, 5, 9):
                point = some_point(random, machine.wide)
                told = self.first(machine, point, steps)
                self.assert_same(first_run(machine, nested_lists(point), steps), told)
                self.assert_same(first_run(steps=steps, point=point, machine=machine), told)

    def test_steps(self):
        self.assert_same(first_run(FLIP, [[1, 2]], 0), ((), (((1, 2),),)))
        self.assert_same(first_run(FLIP, ((1, 2),), 400), ((0,) * 400, (((1, 2),),) * 401))
        self.assert_same(first_run(FLIP, [4], 400), ((2,), ((4,), (2,))))
        for value in (-1, 401, 10 ** 299, True, False, None, "1", 1.0, (1, 2), [1]):
            self.assert_raises(("BadNumber", "steps"), first_run, FLIP, [0], value)
            self.assert_raises(("BadPoint", "point"), first_run, FLIP, None, value)
            self.assert_raises(("BadMachine", "machine"), first_run, None, None, value)

    def test_refuses(self):
        for value in NO_MACHINES:
            self.assert_raises(("BadMachine", "machine"), first_run, value, None, None)
        for machine in (FLIP, SQUARE):
            for value in OFF_POINTS + ([1] * (3 - machine.wide),):
                self.assert_raises(("BadPoint", "point"), first_run, machine, value, 401)


class ThroughTest(Case):

    def test_leads_whatever_is_held(self):
        random = Random(25)
        for machine in some_machines(26, 60):
            way = [random.randrange(len(machine.pieces)) for _ in range(random.randrange(1, 9))]
            rows, shift = through(machine, way)
            for _ in range(4):
                point = goal = some_point(random, machine.wide, 30)
                for number in way:
                    goal = where_led(machine.pieces[number], goal)
                self.assert_same(where_led((None, rows, shift), point), goal)
            self.assert_same(through(way=tuple(way), machine=machine), (rows, shift))

    def test_form(self):
        self.assert_same(through(FLIP, [0]), (((-1,),), (1,)))
        self.assert_same(through(FLIP, [0, 0]), (((1,),), (0,)))
        self.assert_same(through(FLIP, [2, 0]), ((((-1, 2),),), (1,)))
        self.assert_same(through(SQUARE, [1, 0]), (((0, 1), ((1, 2), 0)), ((1, 3), 0)))
        self.assert_same(through(SQUARE, [0, 0]), (((1, 0), (0, 1)), (0, 0)))

    def test_long_ways(self):
        self.assert_same(through(FLIP, [0] * 400), (((1,),), (0,)))
        self.assert_same(through(line_machine([(0, (1, 2), 1)]), [0] * 400),
                         (((formed(worth((1, 2 ** 400))),),), (formed(2 - worth((1, 2 ** 399))),)))
        far = Machine(2, [((0, 0), (((999999, 1000), (1, 997)), ((-1, 991), (999983, 983))), ((1, 977), (1, 971)))])
        rows, shift = through(far, [0] * 400)
        self.assertEqual([len(rows), len(rows[0]), len(shift)], [2, 2, 2])

    def test_refuses(self):
        for value in NO_MACHINES:
            self.assert_raises(("BadMachine", "machine"), through, value, None)
        for machine in (FLIP, SQUARE):
            for value in OFF_WAYS + ([len(machine.pieces)],):
                self.assert_raises(("BadWay", "way"), through, machine, value)


class ShowsRunTest(Case):

    def check(self, told, *args):
        self.assertIs(shows_run(*args), told, args[3] if not isinstance(args[3], Paper) else args[3].parts)

    def test_goes(self):
        way = [0, 0, 1]
        right = [(1, 3)], [(2, 3)], [(1, 3)], [(1, 3)]
        for points in (right, nested_lists(right), tuple(map(tuple, right)), judged_run(FLIP, [(1, 3)], way).points):
            self.check(True, FLIP, [[1, 3]], way, Goes(points))
        self.check(True, FLIP, [[1, 3]], way, Goes(points=right))
        points = list(right)
        off = [points[:3], points + [[(1, 3)]], points[1:], points[::-1], [], None, 0, "points", {}, points[0],
               [points], points[:1] + points]
        for item in ([(1, 2)], [(2, 6)], [(1, 3), 0], [], (1, 3), 1, None, True, [None], [(1, 3, 1)], [((1, 3),)], "1/3",
                     [(True, 3)], [(1.0, 3)]):
            off += [points[:at] + [item] + points[at + 1:] for at in (0, 2, 3)]
        for value in off:
            self.check(False, FLIP, [(1, 3)], way, Goes(value))

    def test_integers_in_their_one_form(self):
        self.check(True, FLIP, [0], [0, 0], Goes([[0], [1], [0]]))
        for points in ([[0], [True], [0]], [[False], [1], [0]], [[0], [(1, 1)], [0]], [[0], [1.0], [0]], [[0], ["1"], [0]],
                       [[0], [(2, 2)], [0]], [0, 1, 0], [[0], [-1], [0]], [[0], [[1]], [0]]):
            self.check(False, FLIP, [0], [0, 0], Goes(points))

    def test_stops(self):
        way = [0, 1, 2, 1]
        for value in (Stops(2, [1]), Stops(2, (1,)), Stops(point=[1], step=2)):
            self.check(True, FLIP, [0], way, value)
        for value in (Stops(1, [1]), Stops(3, [1]), Stops(2, [0]), Stops(2, 1), Stops(2, [True]), Stops(2, [(1, 1)]),
                      Stops(2, [1, 1]), Stops(2, []), Stops(2.0, [1]), Stops("2", [1]), Stops(None, None), Stops([2], [1]),
                      Stops((2, 1), [1]), Goes([[0], [1], [1]]), Goes([[0], [1], [1], [1], [1]])):
            self.check(False, FLIP, [0], way, value)
        self.check(True, FLIP, [0], [0, 2], Stops(1, [1]))
        self.check(False, FLIP, [0], [0, 2], Stops(True, [1]))
        self.check(True, FLIP, [0], [2], Stops(0, [0]))
        self.check(False, FLIP, [0], [2], Stops(False, [0]))
        self.check(False, FLIP, [0], [2], Stops(0, [False]))

    def test_other_kinds(self):
        points = [(0,), (1,)]
        self.check(True, FLIP, [0], [0], Goes(points))
        for value in (None, True, False, 1, 0, "goes", points, tuple(points), ("goes", points), {}, [Goes(points)], Goes,
                      Paper("goes", points), Denial("goes", points), Stops(0, [0]), Stops(1, [1]),
                      Paper("goes"), object()):
            self.check(False, FLIP, [0], [0], value)
        look_alike = type("Goes", (), {"word": "goes", "parts": (((0,), (1,)),), "points": ((0,), (1,))})
        self.check(False, FLIP, [0], [0], look_alike())
        for value in (None, False, Paper("stops", 0, (0,)), Denial("stops", 0, (0,)), Goes(points), (0, (0,))):
            self.check(False, FLIP, [0], [2], value)

    def test_papers_of_other_classes(self):
        for way in ([0, 0], [0, 2]):
            told = judged_run(FLIP, [0], way)
            self.check(True, FLIP, [0], way, told)
            for value in namesakes(told):
                self.check(False, FLIP, [0], way, value)

    def test_by_name(self):
        self.assertIs(shows_run(value=Goes([[0], [1]]), way=[0], point=[0], machine=FLIP), True)

    def test_square(self):
        right = [[(3, 2), 1], [(3, 4), (4, 3)]]
        self.check(True, SQUARE, right[0], [1], Goes(right))
        self.check(False, SQUARE, right[0], [1], Goes([right[0], right[1][::-1]]))
        self.check(True, SQUARE, right[0], [1, 0], Stops(1, right[1]))
        self.check(False, SQUARE, right[0], [1, 0], Stops(1, right[1][::-1]))
