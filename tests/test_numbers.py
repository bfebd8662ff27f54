"""Numbers [4]: what they are, and reckoning with them."""

from fractions import Fraction
from math import lcm
from random import Random

from timesfloor import numbers
from timesfloor.numbers import (is_below, is_number, is_small, least_whole, lowest, minus, over, plus, rest_of, times,
                                whole_of)

from tests.helpers import Case

EXAMPLES = """
>>> [lowest(6, -4), lowest(8, 4), plus((1, 2), (1, 3)), minus(1, [1, 4]), times((2, 3), 3), over(1, (-2, 5))]
[(-3, 2), 2, (5, 6), (3, 4), 2, (-5, 2)]
>>> [is_below((1, 3), (1, 2)), whole_of((-7, 2)), rest_of((-7, 2)), least_whole([(1, 4), 3, (5, 6)]), least_whole([])]
[True, -4, (1, 2), 12, 1]
>>> [is_number((2, 4)), is_number([1, 2]), is_number((3, 1)), is_number(True), is_small((1, 1000)), is_small((1, 1001))]
[False, True, False, False, True, False]
>>> over((1, 2), 0)
raises BadFraction('other')
"""
NUMBERS = (0, 1, -1, 7, -1000, 10 ** 299, -10 ** 299, (1, 2), (-1, 2), [3, 2], (-7, 3), [-10 ** 150, 10 ** 149 + 1],
           (1, 10 ** 299), (10 ** 299, 3))
NONE = (True, False, None, "1", "1/2", b"1", 1.0, 0.5, (), [], (1,), [1, 2, 3], (1, 2, 1), (2, 4), (4, 2), (0, 2),
        (1, 0), (1, 1), (3, 1), (1, -2), (-1, -2), (0, 1), (True, 2), (1, True), (3, False), (1.0, 2), (1, "2"),
        ((1, 2), 3), (1, (2, 3)), {1: 2, 3: 4}, {1, 2}, range(2), object(), Fraction(1, 2))
PAIRED = (plus, minus, times, over, is_below)


def worth(number):
    return Fraction(*number) if isinstance(number, (tuple, list)) else Fraction(number)


def formed(fraction):
    """The one form of a number, as the document tells it."""
    fraction = Fraction(fraction)
    if fraction.denominator == 1:
        return fraction.numerator
    return fraction.numerator, fraction.denominator


class NumbersTest(Case):

    def test_examples(self):
        self.check_examples(EXAMPLES, dict(vars(numbers)))

    def test_is_number(self):
        for value in NUMBERS:
            self.assertIs(is_number(value), True, value)
            self.assertIs(is_number(value=value), True, value)
        for value in NONE:
            self.assertIs(is_number(value), False, value)

    def test_is_small(self):
        most = 1000000
        for value in (0, most, -most, (1, 1000), [-1, 1000], (999999, 1000), (-999999, 1000), (most, 3), (-most, 999)):
            self.assertIs(is_small(value), True, value)
            self.assertIs(is_small(value=value), True, value)
        for value in (most + 1, -most - 1, (1, 1001), (most + 1, 2), (-most - 1, 2), (1000003, 1000), 10 ** 299, *NONE):
            self.assertIs(is_small(value), False, value)

    def test_lowest(self):
        random = Random(1)
        pairs = [(random.randrange(-30, 31), random.randrange(-12, 13)) for _ in range(300)]
        pairs += [(6 * 10 ** 298, -4), (0, -7), (0, 10 ** 299), (10 ** 299, 10 ** 299), (-10 ** 200, 10 ** 199)]
        for above, under in pairs:
            if under:
                self.assert_same(lowest(above, under), formed(Fraction(above, under)))
                self.assert_same(lowest(under=under, above=above), formed(Fraction(above, under)))

    def test_lowest_refuses(self):
        for value in (True, False, None, "1", 1.0, (1, 2), [3], (1,)):
            self.assert_raises(("BadNumber", "above"), lowest, value, 2)
            self.assert_raises(("BadNumber", "above"), lowest, value, 0)
            self.assert_raises(("BadNumber", "under"), lowest, 2, value)
        self.assert_raises(("BadNumber", "under"), lowest, 1, 0)
        self.assert_raises(("BadNumber", "under"), lowest, under=0, above=0)

    def reckoned(self, one, other):
        """What the five functions of two numbers are to answer; None where one refuses."""
        first, second = worth(one), worth(other)
        quotient = formed(first / second) if second else None
        return (formed(first + second), formed(first - second), formed(first * second), quotient, first < second)

    def test_reckoning(self):
        random = Random(2)
        some = [formed(Fraction(random.randrange(-9, 10), random.randrange(1, 7))) for _ in range(40)]
        some += [list(number) if isinstance(number, tuple) else number for number in some[:10]]
        for one in NUMBERS + tuple(some):
            for other in NUMBERS + tuple(some):
                for function, told in zip(PAIRED, self.reckoned(one, other)):
                    if told is not None:
                        self.assert_same(function(one, other), told)

    def test_by_name(self):
        self.assert_same([plus(other=1, one=(1, 2)), minus(other=1, one=(1, 2)), times(other=4, one=(1, 2)),
                          over(other=2, one=(1, 2)), is_below(other=1, one=(1, 2))],
                         [(3, 2), (-1, 2), 2, (1, 4), True])
        self.assert_same([whole_of(number=(7, 2)), rest_of(number=[7, 2]), least_whole(numbers=((1, 2),))],
                         [3, (1, 2), 2])

    def test_reckoning_refuses(self):
        for function in PAIRED:
            for value in NONE:
                self.assert_raises(("BadFraction", "one"), function, value, 1)
                self.assert_raises(("BadFraction", "one"), function, value, value)
                self.assert_raises(("BadFraction", "other"), function, (1, 2), value)
        for value in NONE:
            self.assert_raises(("BadFraction", "number"), whole_of, value)
            self.assert_raises(("BadFraction", "number"), rest_of, value)
        self.assert_raises(("BadFraction", "other"), over, 0, 0)
        self.assert_raises(("BadFraction", "one"), over, None, 0)

    def test_whole_and_rest(self):
        random = Random(3)
        some = [formed(Fraction(random.randrange(-99, 100), random.randrange(1, 9))) for _ in range(200)]
        for number in NUMBERS + tuple(some):
            whole = worth(number).numerator // worth(number).denominator
            self.assert_same(whole_of(number), whole)
            self.assert_same(rest_of(number), formed(worth(number) - whole))

    def test_least_whole(self):
        random = Random(4)
        for _ in range(100):
            some = [formed(Fraction(random.randrange(-99, 100), random.randrange(1, 40))) for _ in range(5)]
            self.assert_same(least_whole(some), lcm(*[worth(number).denominator for number in some]))
        self.assert_same([least_whole(()), least_whole([0, -4]), least_whole([[1, 10 ** 299], (-1, 3)])],
                         [1, 1, 3 * 10 ** 299])

    def test_least_whole_refuses(self):
        for value in (None, 1, True, "12", "", b"", {}, {1: 2}, {1}, range(3), iter([1]), 0.5):
            self.assert_raises(("BadFraction", "numbers"), least_whole, value)
        for value in NONE:
            self.assert_raises(("BadFraction", "numbers"), least_whole, [1, value])
            self.assert_raises(("BadFraction", "numbers"), least_whole, (value, (1, 2)))
        self.assert_same(least_whole((1, 2)), 1)

    def test_nothing_changes(self):
        one, other, some = [1, 2], [2, 3], [[1, 2], 3, [1, 5]]
        for function in PAIRED:
            function(one, other)
        whole_of(one), rest_of(other), least_whole(some)
        self.assert_same([one, other, some], [[1, 2], [2, 3], [[1, 2], 3, [1, 5]]])
