"""Rows [7]."""

from fractions import Fraction
from math import floor
from random import Random

from timesfloor import rows
from timesfloor.rows import comes_again, label_at, labels_of, sum_of, told_back

from tests.examples_floors import ROWS
from tests.helpers import Case
from tests.machines_made import formed, nested_lists, some_point, worth

FAR = 10 ** 180 + 7
LONG = [formed(Fraction(*pair)) for pair in (
    (10 ** 29 + 3, 10 ** 30 - 1), (-10 ** 30 + 7, 10 ** 29 + 9), (7 ** 35, 10 ** 29), (10 ** 29 + 1, 1), (-10 ** 29, 1))]
PLACES = (0, 1, -1, 2, 3, 17, -17, 10 ** 30, -10 ** 30, 10 ** 30 + 1, FAR, -FAR, FAR + 1)
OFF_POINTS = (None, 1, True, "1", "11", (), [], [1] * 3, {0: 1}, {0}, [True], [(2, 4)], [None, 1], [1, "1"], [(2, 4), 1],
              [1, (1, 1)], [1, (3, -2)], [1.0], [(1, 2, 3)], [1, [True, 2]], range(2), b"a")
NO_INTEGERS = (None, True, False, "1", 1.0, (1, 2), [1], {}, (3, 1))


def label(number, place):
    return floor(place * worth(number)) - floor((place - 1) * worth(number))


def some_points():
    random = Random(31)
    points = [some_point(random, wide) for wide in (1, 2) for _ in range(40)]
    return points + [(number,) for number in LONG] + list(zip(LONG, LONG[1:]))


class RowsTest(Case):

    def test_examples(self):
        self.check_examples(ROWS, dict(vars(rows)))

    def test_label_at(self):
        for point in some_points():
            for place in PLACES:
                told = tuple(label(number, place) for number in point)
                self.assert_same(label_at(point, place), told)
                self.assert_same(label_at(place=place, point=nested_lists(point)), told)

    def test_labels_of(self):
        for point in some_points():
            for first in PLACES:
                told = tuple(tuple(label(number, first + more) for number in point) for more in range(5))
                self.assert_same(labels_of(point, first, 5), told)
                self.assert_same(labels_of(many=1, point=nested_lists(point), first=first), told[:1])
                self.assert_same(labels_of(point, first, 0), ())

    def test_many_labels(self):
        point = (LONG[0], (-5, 7))
        for many in (1999, 2000):
            told = labels_of(point, FAR, many)
            self.assertEqual(len(told), many)
            self.assert_same(told[-1], label_at(point, FAR + many - 1))
            self.assert_same(tuple(map(sum, zip(*told))), sum_of(point, FAR, many))

    def test_sum_of(self):
        for point in some_points():
            for first in PLACES:
                for many in (0, 1, 2, 40):
                    told = tuple(sum(label(number, first + more) for more in range(many)) for number in point)
                    self.assert_same(sum_of(point, first, many), told)
                many = 10 ** 39 + 7
                told = tuple(floor((first + many - 1) * worth(number)) - floor((first - 1) * worth(number))
                             for number in point)
                self.assert_same(sum_of(many=many, first=first, point=nested_lists(point)), told)

    def test_comes_again(self):
        for point in some_points()[:80]:
            after = comes_again(point)
            self.assert_same(comes_again(point=nested_lists(point)), after)
            row = labels_of(point, -7, 80)
            for wide in range(1, after + 1):
                self.assertIs(row[wide:] == row[:80 - wide], wide == after, (point, wide))
        for number in LONG:
            self.assert_same(comes_again([number]), Fraction(worth(number)).denominator)
        self.assert_same(comes_again([(1, 6), (5, 4)]), 12)
        self.assert_same(comes_again([(1, 10 ** 30), (1, 10 ** 30 - 1)]), 10 ** 30 * (10 ** 30 - 1))

    def test_refuses_points(self):
        for point in OFF_POINTS:
            for function, rest in ((label_at, (None,)), (labels_of, (None, None)), (sum_of, (None, -1)), (comes_again, ())):
                self.assert_raises(("BadPoint", "point"), function, point, *rest)

    def test_refuses_numbers(self):
        for value in NO_INTEGERS:
            self.assert_raises(("BadNumber", "place"), label_at, [(1, 2)], value)
            self.assert_raises(("BadNumber", "first"), labels_of, [(1, 2)], value, None)
            self.assert_raises(("BadNumber", "first"), sum_of, [(1, 2)], value, None)
            self.assert_raises(("BadNumber", "many"), labels_of, [(1, 2)], 0, value)
            self.assert_raises(("BadNumber", "many"), sum_of, [(1, 2)], 0, value)
        for many in (-1, 2001, 10 ** 299):
            self.assert_raises(("BadNumber", "many"), labels_of, many=many, point=[(1, 2), 3], first=0)
        for many in (-1, -10 ** 40):
            self.assert_raises(("BadNumber", "many"), sum_of, many=many, point=[(1, 2), 3], first=0)


class ToldBackTest(Case):

    def check_between(self, labels, told):
        """low has these labels, and so has what is just below high; high and what is below low have others."""
        low, high = map(worth, told)
        near = Fraction(1, 10 ** 9)
        for number, has in ((low, True), (high - near, True), (high, False), (low - near, False)):
            row = [labels_at[0] for labels_at in labels_of([formed(number)], 1, len(labels))]
            self.assertIs(row == list(labels), has, (labels, number))

    def test_labels_of_numbers(self):
        for point in some_points():
            for number in point:
                for many in (1, 2, 9):
                    labels = [labels_at[0] for labels_at in labels_of([number], 1, many)]
                    told = told_back(labels)
                    self.assertTrue(worth(told[0]) <= worth(number) < worth(told[1]))
                    self.check_between(labels, told)
                    self.assert_same(told_back(labels=tuple(labels)), told)
                    self.assert_same(tuple(map(formed, map(worth, told))), told)

    def test_any_labels(self):
        random, none = Random(33), 0
        for _ in range(300):
            labels = [random.choice((1, 1, 2)) for _ in range(random.randrange(1, 8))]
            sums = [sum(labels[:many]) for many in range(1, len(labels) + 1)]
            low = max(Fraction(total, many) for many, total in enumerate(sums, 1))
            high = min(Fraction(total + 1, many) for many, total in enumerate(sums, 1))
            told = told_back(labels)
            self.assert_same(told, (formed(low), formed(high)) if low < high else None)
            none += told is None
        self.assertGreater(none, 30)

    def test_one_label_changed(self):
        labels = [labels_at[0] for labels_at in labels_of([(4, 7)], 1, 30)]
        for at in range(30):
            for more in (-2, -1, 1, 2):
                changed = labels[:at] + [labels[at] + more] + labels[at + 1:]
                told = told_back(changed)
                if told is not None:
                    self.check_between(changed, told)
        self.assertIsNone(told_back(labels[:6] + [labels[6] + 2] + labels[7:]))
        self.assertIsNone(told_back([0, 2]))
        self.assertIsNone(told_back([1, -1]))
        self.assert_same(told_back([0, 1]), ((1, 2), 1))
        self.assert_same(told_back([10 ** 299]), (10 ** 299, 10 ** 299 + 1))

    def test_how_many(self):
        labels = [labels_at[0] for labels_at in labels_of([(999, 1000)], 1, 2000)]
        self.assert_same(told_back(labels), ((999, 1000), (1000, 1001)))
        self.assert_same(told_back([3] * 2000), (3, (6001, 2000)))
        self.assert_same(told_back([5]), (5, 6))
        for value in ([3] * 2001, (3,) * 2001, [], ()):
            self.assert_raises(("BadNumber", "labels"), told_back, value)

    def test_refuses(self):
        for value in (None, 1, True, "1", "", {1: 1}, {1}, range(1, 3), [True], [1, False], [1, (1, 2)], [1, 1.0], ["1"],
                      [None], [[1]], [1, (2, 1)], b"ab"):
            self.assert_raises(("BadNumber", "labels"), told_back, value)
        self.assert_raises(("BadNumber", "labels"), told_back, labels=[1, True])
