"""Reading a text item by item."""

from timesfloor.checks import is_within
from timesfloor.errors import BadText
from timesfloor.number_texts import integer_in, number_in
from timesfloor.numbers import is_number, is_small


class Items:
    """The items of a text; the first one that cannot stand, or is missing, is told by a BadText."""

    def __init__(self, text):
        if not isinstance(text, str):
            raise BadText(0, 0)
        self.words = text.split(" ")
        self.at = 0

    def has_more(self):
        """Whether an item is left."""
        return self.at < len(self.words)

    def coming(self):
        """The item that comes, which stays to be taken."""
        if not self.has_more():
            raise BadText(0, self.at)
        return self.words[self.at]

    def passed(self, value, can_stand):
        """What was made of the item that comes, which is taken, if it can stand."""
        if not can_stand:
            raise BadText(0, self.at)
        self.at += 1
        return value

    def take_sign(self, sign):
        """Takes an item that has to be just this one."""
        return self.passed(sign, self.coming() == sign)

    def take_word(self, words):
        """Takes an item that is one of some."""
        word = self.coming()
        return self.passed(word, word in words)

    def take_integer(self, least, most):
        """Takes an integer from least to most, None being no bound."""
        value = integer_in(self.coming())
        return self.passed(value, is_within(value, least, most))

    def take_number(self):
        """Takes a number."""
        value = number_in(self.coming())
        return self.passed(value, is_number(value))

    def take_small(self):
        """Takes a small number."""
        value = number_in(self.coming())
        return self.passed(value, is_small(value))

    def take_end(self):
        """Refuses an item that is left."""
        if self.has_more():
            raise BadText(0, self.at)

    def want_whole(self, stands):
        """Refuses the last item that was taken, if what only the whole shows does not stand."""
        if not stands:
            raise BadText(0, self.at - 1)
