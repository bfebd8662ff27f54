"""The classes of errors [2]."""

import inspect

from timesfloor import errors
from timesfloor.errors import TileError

from tests.helpers import Case

PARTS = ("BadNumber", "BadFraction", "BadPoint", "BadMachine", "BadWay", "BadTile", "BadBlock", "BadStretch",
         "BadProgram", "BadStand", "BadPaper", "Misfit")
FIELDS = {
    **{name: ("part",) for name in PARTS},
    "NoName": ("value",),
    "Twice": ("value",),
    "TooMany": ("what", "most"),
    "BadText": ("line", "item"),
    "BadLine": ("line", "error"),
}
VALUES = (0, None, True, "part", [1, [2]], (1, 2), {"a": []}, b"x", ValueError("x"), 10 ** 299)


class ErrorsTest(Case):

    def test_all_are_there(self):
        told = {name for name, value in vars(errors).items() if inspect.isclass(value)}
        self.assertEqual(told, {"TileError", *FIELDS})

    def test_bases(self):
        self.assertEqual(TileError.__bases__, (ValueError,))
        for name in FIELDS:
            self.assertEqual(getattr(errors, name).__bases__, (TileError,), name)

    def test_fields_by_place_and_by_name(self):
        for name, fields in FIELDS.items():
            kind = getattr(errors, name)
            self.assertEqual(tuple(inspect.signature(kind).parameters), fields, name)
            for value in VALUES:
                values = (value, "other")[:len(fields)]
                for error in (kind(*values), kind(**dict(zip(fields, values)))):
                    kept = [getattr(error, field) for field in fields]
                    self.assertTrue(all(one is other for one, other in zip(kept, values)), name)

    def test_fields_are_wanted(self):
        for name, fields in FIELDS.items():
            kind = getattr(errors, name)
            self.assertRaises(TypeError, kind)
            self.assertRaises(TypeError, kind, *(0,) * (len(fields) + 1))

    def test_caught(self):
        for name, fields in FIELDS.items():
            kind = getattr(errors, name)
            for caught in (kind, TileError, ValueError):
                with self.assertRaises(caught):
                    raise kind(*fields)
            for other in FIELDS:
                self.assertEqual(issubclass(kind, getattr(errors, other)), other == name)
