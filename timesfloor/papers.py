"""Papers: an answer together with what shows it."""


def fixed(value):
    """The value with tuples in the place of lists, all the way in."""
    if isinstance(value, (list, tuple)):
        return tuple([fixed(item) for item in value])
    return value


def bears(value, name):
    """Whether the class of a value has a name."""
    return value.__class__.__name__ == name


def are_alike(paper, other):
    """Whether two papers are of one class, with equal words and parts."""
    if not isinstance(other, Paper) or not bears(other, paper.__class__.__name__):
        return False
    # Two classes may bear one name: then just one of the papers finds that the other one is of its own class.
    if paper.is_one(other) != other.is_one(paper):
        return False
    return paper.word == other.word and paper.parts == other.parts


class Paper:
    """A paper that tells an answer; it is true."""

    def __init__(self, word, *parts):
        self.word = word
        self.parts = fixed(parts)

    def __bool__(self):
        return True

    def __eq__(self, other):
        return are_alike(self, other)

    @staticmethod
    def is_one(value):
        """Whether a value is a paper; a class of papers tells whether it is made by calling this class."""
        return isinstance(value, Paper)


class Denial(Paper):
    """A paper that says no; it is false."""

    def __init__(self, word, *parts):
        Paper.__init__(self, word, *parts)

    def __bool__(self):
        return False

    def __eq__(self, other):
        return are_alike(self, other)

    @staticmethod
    def is_one(value):
        """Whether a value is a denial."""
        return isinstance(value, Denial)
