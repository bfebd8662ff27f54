"""Reading a text item by item."""

from timesfloor.checks import is_within
from timesfloor.errors import BadText
from timesfloor.number_texts import integer_in, number_in
from timesfloor.numbers import is_small


class Items:
    """The items of a text; the first one that cannot stand, or is missing, is told by a BadText."""

    def __init__(self, text):
        if not isinstance(text, str):
            raise BadText(0, 0)
        self.words = text.split(" ")
        self.at = 0

    def has_more(self):
        """Whether an item is left."""
        return self.at < len(self.words)

    def coming(self):
        """The item that comes, which stays to be taken."""
        if not self.has_more():
            raise BadText(0, self.at)
        return self.words[self.at]

    def take_sign(self, sign):
        """Takes an item that has to be just this one."""
        if self.coming() != sign:
            raise BadText(0, self.at)
        self.at += 1

    def take_integer(self, least, most):
        """Takes an integer from least to most."""
        value = integer_in(self.coming())
        if not is_within(value, least, most):
            raise BadText(0, self.at)
        self.at += 1
        return value

    def take_small(self):
        """Takes a small number."""
        value = number_in(self.coming())
        if not is_small(value):
            raise BadText(0, self.at)
        self.at += 1
        return value
