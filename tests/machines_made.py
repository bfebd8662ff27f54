"""Machines, points and reckoning for the tests, made without the package's own reckoning."""

from fractions import Fraction
from random import Random

from timesfloor.machines import Machine


def formed(value):
    """The one form of a number."""
    value = Fraction(value)
    return value.numerator if value.denominator == 1 else (value.numerator, value.denominator)


def worth(number):
    return Fraction(*number) if isinstance(number, (tuple, list)) else Fraction(number)


def some_number(random):
    return formed(Fraction(random.randrange(-9, 10), random.choice((1, 1, 2, 3, 4))))


def some_piece(random, wide, low=3):
    """A piece near to 0, so that points near to 0 are often held."""
    corner = tuple(random.randrange(-low, low) for _ in range(wide))
    rows = tuple(tuple(some_number(random) for _ in range(wide)) for _ in range(wide))
    return corner, rows, tuple(some_number(random) for _ in range(wide))


def some_machine(random, wide, many):
    """A machine of at most so many pieces."""
    return Machine(wide, list(dict.fromkeys(some_piece(random, wide) for _ in range(many))))


def some_machines(seed, many=40):
    random = Random(seed)
    return [some_machine(random, random.choice((1, 2)), random.randrange(1, 8)) for _ in range(many)]


def some_point(random, wide, low=3):
    return tuple(formed(Fraction(random.randrange(-low * 6, low * 6 + 1), random.choice((1, 2, 3, 6))))
                 for _ in range(wide))


def is_held(piece, point):
    return all(low <= worth(number) <= low + 1 for low, number in zip(piece[0], point))


def where_led(piece, point):
    return tuple(formed(sum((worth(factor) * worth(number) for factor, number in zip(row, point)), worth(start)))
                 for row, start in zip(piece[1], piece[2]))


def nested_lists(value):
    """The value with lists in the place of tuples."""
    return [nested_lists(item) for item in value] if isinstance(value, (tuple, list)) else value
