"""The errors of the package. Each keeps its fields, whatever they are."""


class TileError(ValueError):
    """The base of all errors here; nothing is made of it alone."""


class BadNumber(TileError):
    """No integer, or one beyond the bounds that are told."""

    def __init__(self, part):
        self.part = part


class BadFraction(TileError):
    """No number: neither an integer nor a fraction in its one form."""

    def __init__(self, part):
        self.part = part


class BadPoint(TileError):
    """No point of as many numbers as are wanted."""

    def __init__(self, part):
        self.part = part


class BadMachine(TileError):
    """No machine, or what makes none."""

    def __init__(self, part):
        self.part = part


class BadWay(TileError):
    """No way of a machine."""

    def __init__(self, part):
        self.part = part


class BadTile(TileError):
    """No tile of a machine."""

    def __init__(self, part):
        self.part = part


class BadBlock(TileError):
    """No block."""

    def __init__(self, part):
        self.part = part


class BadStretch(TileError):
    """No stretch."""

    def __init__(self, part):
        self.part = part


class BadProgram(TileError):
    """No program, or what makes none."""

    def __init__(self, part):
        self.part = part


class BadStand(TileError):
    """No stand of a program."""

    def __init__(self, part):
        self.part = part


class BadPaper(TileError):
    """No paper."""

    def __init__(self, part):
        self.part = part


class Misfit(TileError):
    """Something that does not fit together with the rest."""

    def __init__(self, part):
        self.part = part


class NoName(TileError):
    """A name by which nothing is kept."""

    def __init__(self, value):
        self.value = value


class Twice(TileError):
    """A value that stands there already."""

    def __init__(self, value):
        self.value = value


class TooMany(TileError):
    """There are more of something than can be."""

    def __init__(self, what, most):
        self.what = what
        self.most = most


class BadText(TileError):
    """A text of nothing: the index of the first item that cannot stand."""

    def __init__(self, line, item):
        self.line = line
        self.item = item


class BadLine(TileError):
    """The number of a line, and the error that was raised there."""

    def __init__(self, line, error):
        self.line = line
        self.error = error
