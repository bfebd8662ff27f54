"""What several test files share."""

from unittest import TestCase

from timesfloor.errors import TileError


def raised(call):
    """The class name and the fields of the TileError that a call raises; None if it raises none."""
    try:
        call()
    except TileError as error:
        return (type(error).__name__, *vars(error).values())
    return None


def namesakes(paper):
    """Papers with the word and the parts of a paper, of other classes: one of its name, one below it, its base."""
    kind = type(paper)
    base = kind.__bases__[0]
    return [type(kind.__name__, (base,), {})(paper.word, *paper.parts), type("Below", (kind,), {})(*paper.parts),
            base(paper.word, *paper.parts)]


def steps_of(text):
    """Pairs (expression or statement, expected line or None) of an example with >>> prompts."""
    steps = []
    for line in text.strip().splitlines():
        if line.startswith(">>> "):
            steps.append([line[4:], None])
        else:
            steps[-1][1] = line
    return steps


class Case(TestCase):
    """A test case that knows the errors of the package and the examples of the document."""

    maxDiff = None

    def assert_raises(self, error, function, *args, **named):
        """error is the class name with the fields behind it."""
        self.assertEqual(raised(lambda: function(*args, **named)), error, (args, named))

    def check_examples(self, text, names):
        """Runs an example of the document; names are changed as the example assigns."""
        for source, expected in steps_of(text):
            with self.subTest(source):
                self.check_step(source, expected, names)

    def check_step(self, source, expected, names):
        if expected is None:
            exec(source, names)
        elif expected.startswith("raises "):
            error = raised(lambda: eval(source, names))
            self.assertIsNotNone(error)
            told = f"raises {error[0]}({', '.join(map(repr, error[1:]))})"
            self.assertIn(expected, (told, f"raises {error[0]}"))
        else:
            self.assert_same(eval(source, names), eval(expected, names))

    def assert_same(self, value, expected):
        """Equal all the way in, True and False being no integers and lists no tuples."""
        self.assertEqual(repr(value), repr(expected))
        self.assertEqual(value, expected)
