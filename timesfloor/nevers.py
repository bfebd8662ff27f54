"""Primes that tell of a machine of width 1 that no number ever comes back."""

from math import gcd

from timesfloor.errors import Misfit
from timesfloor.exact import parts_of
from timesfloor.machines import want_machine
from timesfloor.papers import Denial, Paper, bears
from timesfloor.pieces import lies_from


class Never(Paper):
    """No number ever comes back: a prime weighs more than nothing in each q, or less than nothing in each."""

    def __init__(self, prime):
        Paper.__init__(self, "never", prime)
        self.prime = self.parts[0]

    @staticmethod
    def is_one(value):
        """Whether a value is made by calling this class."""
        return isinstance(value, Never) and bears(value, "Never")


class Maybe(Denial):
    """There is no such prime."""

    def __init__(self):
        Denial.__init__(self, "maybe")

    @staticmethod
    def is_one(value):
        """Whether a value is made by calling this class."""
        return isinstance(value, Maybe) and bears(value, "Maybe")


def only_turns(piece):
    """Whether a piece of width 1 has the shift 0, another row, and does not hold 0."""
    corner, rows, shift = piece
    return shift[0] == 0 and rows[0][0] != 0 and not lies_from(0, corner[0])


def want_turns(machine):
    """Refuses what is no machine of width 1 whose pieces only multiply, and numbers that are not 0."""
    want_machine(machine, "machine")
    if machine.wide != 1 or not all([only_turns(piece) for piece in machine.pieces]):
        raise Misfit("machine")


def primes_in(number):
    """The primes that divide an integer from 1 on, ascending."""
    found = []
    prime = 2
    while prime * prime <= number:
        if number % prime == 0:
            found.append(prime)
            while number % prime == 0:
                number = number // prime
        prime += 1
    return found if number == 1 else found + [number]


def weighing_primes(machine):
    """The primes that weigh more than nothing in the q of each piece, or less than nothing in each, ascending."""
    above = under = 0
    for _, rows, _ in machine.pieces:
        # What stands above has no prime in common with what stands under, so it weighs just where it divides.
        more, less = parts_of(rows[0][0])
        above, under = gcd(above, more), gcd(under, less)
    return sorted(primes_in(above) + primes_in(under))


def judged_never(machine):
    """The Never of the least prime that weighs in all pieces to one side; Maybe if there is none."""
    want_turns(machine)
    primes = weighing_primes(machine)
    return Never(primes[0]) if primes else Maybe()
