"""Papers [3]."""

from timesfloor import papers
from timesfloor.bands import Band, Gap
from timesfloor.courses import Ends, Runs
from timesfloor.floors import Clash, Fits
from timesfloor.judged import Dies, Returns, Stays, Unsure
from timesfloor.nevers import Maybe, Never
from timesfloor.papers import Denial, Paper, fixed
from timesfloor.rounds import Round, Straight
from timesfloor.runs import Goes, Stops

from tests.examples_machines import PAPERS
from tests.helpers import Case, namesakes

VALUES = (0, None, True, "text", b"x", 1.5, {"a": [1]}, (), [], (1, [2, (3, [])]), [[[1]]])
CLASSES = ((Goes, Paper, "goes", ("points",)), (Stops, Denial, "stops", ("step", "point")),
           (Fits, Paper, "fits", ("averages",)), (Clash, Denial, "clash", ("row", "place", "part")),
           (Returns, Paper, "returns", ("number", "way")), (Stays, Paper, "stays", ("stretches",)),
           (Dies, Denial, "dies", ("steps",)), (Unsure, Denial, "unsure", ("most", "long")),
           (Never, Paper, "never", ("prime",)), (Maybe, Denial, "maybe", ()),
           (Band, Paper, "band", ("columns",)), (Gap, Denial, "gap", ("wide",)),
           (Round, Paper, "round", ("wide", "block")), (Straight, Denial, "straight", ("wide",)),
           (Runs, Paper, "runs", ("stands",)), (Ends, Denial, "ends", ("ending", "stands")))


class PapersTest(Case):

    def test_examples(self):
        self.check_examples(PAPERS, dict(vars(papers)))

    def test_fixed(self):
        told = (([], ()), ([[], [()], ([],)], ((), ((),), ((),))), ([1, "a", [True, None]], (1, "a", (True, None))),
                ((1, (2, (3,))), (1, (2, (3,)))), ([{1: [2]}], ({1: [2]},)))
        for value, expected in told:
            self.assert_same(fixed(value), expected)
            self.assert_same(fixed(value=value), expected)
        deep_list, deep_tuple = [], ()
        for _ in range(30):
            deep_list, deep_tuple = [deep_list, (1, [2])], (deep_tuple, (1, (2,)))
        self.assert_same(fixed(deep_list), deep_tuple)
        self.assert_same(fixed(deep_tuple), deep_tuple)

    def test_fixed_leaves_other_values(self):
        for value in (0, True, None, "ab", b"ab", 1.5, {"a": [1]}, {1, 2}, range(3), Paper("note"), object()):
            self.assertIs(fixed(value), value)
            self.assertIs(fixed([value])[0], value)

    def test_fixed_copies(self):
        inner = [1]
        value = [inner]
        told = fixed(value)
        inner.append(2)
        self.assert_same(told, ((1,),))
        self.assert_same(value, [[1, 2]])

    def test_plain_papers(self):
        for kind, truth in ((Paper, True), (Denial, False)):
            paper = kind("note", [1, [2]], "x")
            self.assertEqual(paper.word, "note")
            self.assert_same(paper.parts, ((1, (2,)), "x"))
            self.assertIs(bool(paper), truth)
            self.assert_same(kind("note").parts, ())
            self.assertIs(bool(kind("note")), truth)
            self.assert_same(kind("note", 0, None).parts, (0, None))
        self.assertTrue(issubclass(Denial, Paper))

    def test_classes(self):
        for kind, base, word, names in CLASSES:
            self.assertEqual(kind.__bases__, (base,))
            for value in VALUES:
                values = (value, [value], (1, [value]))[:len(names)]
                for paper in (kind(*values), kind(**dict(zip(names, values)))):
                    self.assertEqual(paper.word, word)
                    self.assert_same(paper.parts, tuple(fixed(item) for item in values))
                    self.assert_same(tuple(getattr(paper, name) for name in names), paper.parts)
                    self.assertIs(bool(paper), base is Paper)

    def test_equal(self):
        self.assertTrue(Paper("a", 1, [2]) == Paper("a", 1, (2,)))
        self.assertTrue(Denial("a", [[1]]) == Denial("a", ((1,),)))
        self.assertTrue(Goes([[1], [2]]) == Goes(points=((1,), (2,))))
        self.assertTrue(Stops(1, [2]) == Stops(step=1, point=(2,)))
        self.assertTrue(Goes([Stops(1, [2])]) == Goes([Stops(1, (2,))]))
        self.assertTrue(Stops(True, [1]) == Stops(1, [True]), "as Python compares them")
        self.assertFalse(Paper("a", 1) != Paper("a", 1))

    def test_unlike(self):
        some = [Paper("goes", [(1,)]), Denial("goes", [(1,)]), Goes([(1,)]), Goes([(2,)]), Goes([1]), Goes(None),
                Paper("stops", 1, (2,)), Denial("stops", 1, (2,)), Stops(1, (2,)), Stops(2, (2,)), Stops(1, (3,)),
                Paper("a"), Paper("b"), Paper("a", 1), Paper("a", 1, 2), Paper("a", (1, 2)), Denial("a")]
        for at, one in enumerate(some):
            for place, other in enumerate(some):
                self.assertIs(one == other, at == place, (at, place))
                self.assertIs(one != other, at != place, (at, place))

    def test_unlike_other_values(self):
        look_alike = type("Goes", (), {"word": "goes", "parts": (((1,),),)})
        self.assertIs(Goes([[1]]) == look_alike(), False)
        for paper in (Paper("a", 1), Denial("a", 1), Goes([(1,)]), Stops(0, (1,))):
            for value in (None, "a", 1, True, False, (), paper.parts, ("a", 1), [paper], object()):
                self.assertIs(paper == value, False)
                self.assertIs(value == paper, False)

    def test_other_classes_of_one_name(self):
        for kind, _, _, names in CLASSES:
            paper = kind(*([1], [2], [3])[:len(names)])
            for other in namesakes(paper):
                self.assert_same((other.word, other.parts), (paper.word, paper.parts))
                self.assertIs(paper == other, False, type(other).__bases__)
                self.assertIs(other == paper, False, type(other).__bases__)
                self.assertIs(other == other, True)
                self.assertIs(kind.is_one(other), False)
            self.assertIs(kind.is_one(paper), True)
            for value in (None, kind.__name__, paper.parts):
                self.assertIs(kind.is_one(value), False)
