"""Primes that weigh in all pieces to one side [11]."""

from fractions import Fraction
from random import Random

from timesfloor.check_judged import shows_never
from timesfloor.machines import Machine, line_machine
from timesfloor.nevers import Maybe, Never, judged_never
from timesfloor.papers import Denial, Paper
from timesfloor.stretches import comebacks

from tests.helpers import Case, namesakes
from tests.machines_made import formed
from tests.test_tiles import NO_MACHINES

PRIMES = [number for number in range(2, 1000) if all(number % less for less in range(2, number))]
SIX = line_machine([(1, 6, 0), (2, (12, 5), 0), (-3, (-18, 7), 0)])
OFF = (line_machine([(1, 2, 1)]), line_machine([(1, 2, 0), (2, 2, (1, 7))]), line_machine([(1, 0, 0)]),
       line_machine([(1, 2, 0), (2, 0, 0)]), line_machine([(0, 2, 0)]), line_machine([(-1, 2, 0)]),
       line_machine([(1, 2, 0), (-1, 2, 0)]), line_machine([(1, 2, 0), (0, 3, 0)]),
       Machine(2, [((1, 1), ((2, 0), (0, 2)), (0, 0))]))
OTHER_VALUES = (None, True, False, 0, 1, 2, 3, "never", "maybe", (2,), [], Never, Maybe, object(), ("never", 2),
                Paper("never", 2), Paper("never", 3), Denial("maybe"), Paper("maybe"))


def weight(number, prime):
    """How often a prime weighs in a number that is not 0."""
    above, under, told = abs(number.numerator), number.denominator, 0
    while above % prime == 0:
        above, told = above // prime, told + 1
    while under % prime == 0:
        under, told = under // prime, told - 1
    return told


def weighing(factors):
    return [prime for prime in PRIMES if all(weight(factor, prime) > 0 for factor in factors)
            or all(weight(factor, prime) < 0 for factor in factors)]


def some_turns(seed, many):
    """Machines whose numbers are made of few primes, with their factors."""
    random = Random(seed)
    for _ in range(many):
        factors = []
        for _ in range(random.randrange(1, 5)):
            factor = Fraction(random.choice((1, -1)))
            for prime in (2, 3, 5, 7):
                factor *= Fraction(prime) ** random.choice((-1, -1, 0, 1, 1, 2))
            factors.append(factor)
        corners = random.sample([-5, -4, -3, -2, 1, 2, 3, 4], len(factors))
        yield line_machine([(low, formed(factor), 0) for low, factor in zip(corners, factors)]), factors


class NeverTest(Case):

    def test_some_machines(self):
        met = set()
        for machine, factors in some_turns(81, 300):
            primes = weighing(factors)
            told = judged_never(machine)
            self.assertTrue(judged_never(machine=machine) == told)
            if primes:
                self.assert_same((told.word, told.parts, bool(told)), ("never", (primes[0],), True))
                for long in (1, 2):
                    self.assertEqual(comebacks(machine, long), ())
            else:
                self.assert_same((told.word, told.parts, bool(told)), ("maybe", (), False))
            for prime in range(-3, 13):
                self.assertIs(shows_never(machine, Never(prime)), prime in primes)
            self.assertIs(shows_never(machine, Maybe()), not primes)
            met.add(len(primes))
        self.assertLessEqual({0, 1, 2}, met)

    def test_form_of_q(self):
        for factors, prime in (((6,), 2), ((9, 3), 3), (((1, 4), (1, 6)), 2), ((1,), None), ((-1,), None), ((1, 2), None),
                               ((2, (1, 2)), None), ((-2, 4), 2), (((-5, 6), (10, 9)), 3), ((2, 3), None), ((4, 6, 10), 2),
                               (((2, 3), (3, 2)), None), (((2, 15), (4, 5)), 2), (((1, 997), (5, 997)), 997),
                               ((999983,), 999983), ((999983, -999983), 999983), (((999983, 1000), 999983), 999983),
                               ((1000000, 999999), None), ((994009,), 997), ((994009, 997), 997), ((510510, (30030, 17)), 2),
                               (((1, 961), (961, 2)), None), ((15, 25, 35), 5), (((7, 9), (4, 27)), 3)):
            machine = line_machine([(at + 1, factor, 0) for at, factor in enumerate(factors)])
            told = judged_never(machine)
            self.assert_same(told.parts, () if prime is None else (prime,))
            self.assertIs(shows_never(machine, told), True)
            self.assertIs(shows_never(machine, Maybe()), prime is None)

    def test_shown_primes(self):
        for value in (2, 3):
            self.assertIs(shows_never(SIX, Never(value)), True)
            self.assertIs(shows_never(SIX, Never(prime=value)), True)
        for value in (0, 1, -1, -2, -3, 4, 6, 5, 7, 9, True, False, None, "2", 2.0, (2,), [2], (2, 1), 10 ** 299, 2 ** 900):
            self.assertIs(shows_never(SIX, Never(value)), False)
        for factor in (1, (1, 2), 3):
            machine = line_machine([(1, factor, 0), (2, 1, 0)])
            for value in (1, True, 0, 2, 3, None):
                self.assertIs(shows_never(machine, Never(value)), False)
            self.assertIs(shows_never(machine, Maybe()), True)

    def test_other_kinds(self):
        none = line_machine([(1, 2, 0), (2, (1, 2), 0)])
        for value in OTHER_VALUES:
            self.assertIs(shows_never(SIX, value), False)
            self.assertIs(shows_never(value=value, machine=none), False)
        for value in namesakes(Never(2)):
            self.assertIs(shows_never(SIX, value), False)
            self.assertIs(value == Never(2), False)
        for value in namesakes(Maybe()):
            self.assertIs(shows_never(none, value), False)
            self.assertIs(value == Maybe(), False)
        self.assertTrue(Maybe() == Maybe())
        self.assertFalse(Maybe() == Denial("maybe"))

    def test_corners(self):
        for low in (-1000, -3, -2, 1, 2, 999):
            self.assertEqual(judged_never(line_machine([(low, 2, 0)])).word, "never")

    def test_refuses(self):
        for value in NO_MACHINES:
            self.assert_raises(("BadMachine", "machine"), judged_never, value)
            self.assert_raises(("BadMachine", "machine"), shows_never, value, Maybe())
        for machine in OFF:
            self.assert_raises(("Misfit", "machine"), judged_never, machine)
            for value in (Maybe(), Never(2), None):
                self.assert_raises(("Misfit", "machine"), shows_never, value=value, machine=machine)
