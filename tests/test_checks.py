"""Questions about any values."""

from timesfloor.checks import is_integer, is_within

from tests.helpers import Case

EXAMPLES = """
>>> [is_integer(True), is_integer(-3), is_within(3, None, 3), is_within(4, 0, 3), is_within(False, 0, None)]
[False, True, True, False, False]
"""
NONE = (True, False, "3", "", b"3", (1, 2), [3], (), [], None, 3.0, {}, {3: 3}, 3j, object())


class ChecksTest(Case):

    def test_examples(self):
        self.check_examples(EXAMPLES, {"is_integer": is_integer, "is_within": is_within})

    def test_integers(self):
        for value in (0, 1, -1, 10 ** 299, -10 ** 299):
            self.assertIs(is_integer(value), True)
            self.assertIs(is_integer(value=value), True)

    def test_no_integers(self):
        for value in NONE:
            self.assertIs(is_integer(value), False, value)
            for least, most in ((None, None), (0, None), (None, 5), (-5, 5)):
                self.assertIs(is_within(value, least, most), False, value)

    def test_bounds(self):
        for value, told in ((-3, False), (-2, True), (0, True), (4, True), (5, False)):
            self.assertIs(is_within(value, -2, 4), told)
            self.assertIs(is_within(value=value, least=-2, most=4), told)
        self.assertIs(is_within(7, 7, 7), True)
        self.assertIs(is_within(7, 8, 6), False)

    def test_no_bound(self):
        for value in (-10 ** 200, -1, 0, 1, 10 ** 200):
            self.assertIs(is_within(value, None, None), True)
            self.assertIs(is_within(value, 0, None), value >= 0)
            self.assertIs(is_within(value, None, 0), value <= 0)
