"""The interface: where each name is defined, what it takes by name, and which methods stand in which class itself."""

import inspect
from importlib import import_module

from timesfloor import errors
from timesfloor.papers import Denial, Paper

from tests.helpers import Case

FUNCTIONS = {
    "checks": {"is_integer": "value", "is_within": "value least most"},
    "numbers": {"is_number": "value", "is_small": "value", "lowest": "above under", "plus": "one other", "minus": "one other", "times": "one other",
                "over": "one other", "is_below": "one other", "whole_of": "number", "rest_of": "number", "least_whole": "numbers"},
    "number_texts": {"number_text": "number", "number_of": "text"},
    "papers": {"fixed": "value"},
    "machines": {"line_machine": "triples", "holds": "machine piece point", "led": "machine piece point", "nexts": "machine point"},
    "changes": {"moved": "machine shift", "mirrored": "machine", "scaled": "machine by", "joined": "one other"},
    "runs": {"judged_run": "machine point way", "first_run": "machine point steps", "through": "machine way"},
    "check_runs": {"shows_run": "machine point way value"},
    "rows": {"label_at": "point place", "labels_of": "point first many", "sum_of": "point first many", "comes_again": "point", "told_back": "labels"},
    "tiles": {"carries_of": "machine piece", "tiles_of": "machine piece", "is_tile": "machine value", "tile_at": "machine piece point place"},
    "floors": {"block_of": "machine point way first many", "judged_block": "machine block", "offs_of": "machine block", "is_round": "machine block"},
    "check_floors": {"shows_block": "machine block value"},
    "stretches": {"stretch_of": "machine way", "goal_of": "machine way", "living": "machine steps", "ways_of": "machine steps", "comebacks": "machine long"},
    "judged": {"judged": "machine most long"}, "nevers": {"judged_never": "machine"},
    "check_judged": {"shows_judged": "machine most long value", "shows_never": "machine value"},
    "bands": {"columns_of": "machine way", "judged_band": "machine way", "numbers_of": "machine columns"},
    "check_bands": {"shows_band": "machine way value"},
    "rounds": {"round_at": "machine point way", "rounds_wide": "machine way wide", "judged_round": "machine way wide"},
    "check_rounds": {"shows_round": "machine way wide value"},
    "programs": {}, "courses": {"stepped": "program stand", "judged_course": "program stand steps"},
    "check_courses": {"shows_course": "program stand steps value"},
    "leads": {"machine_of": "program", "point_of": "program stand", "stand_of": "program point", "way_of": "program stand steps",
              "like_stand": "program point"},
    "pictures": {"picture": "machine block", "tile_text": "machine tile", "tile_of": "machine text"},
    "desks": {}, "scripts": {"played": "lines"},
}
CLASSES = {
    "machines": {"Machine": "wide pieces"}, "runs": {"Goes": "points", "Stops": "step point"}, "floors": {"Fits": "averages", "Clash": "row place part"},
    "judged": {"Returns": "number way", "Stays": "stretches", "Dies": "steps", "Unsure": "most long"}, "nevers": {"Never": "prime", "Maybe": ""},
    "bands": {"Band": "columns", "Gap": "wide"}, "rounds": {"Round": "wide block", "Straight": "wide"}, "programs": {"Program": "lines"},
    "courses": {"Runs": "stands", "Ends": "ending stands"}, "desks": {"Desk": ""},
}
ERRORS = {name: "part" for name in ("BadNumber", "BadFraction", "BadPoint", "BadMachine", "BadWay", "BadTile", "BadBlock", "BadStretch", "BadProgram",
                                    "BadStand", "BadPaper", "Misfit")}
ERRORS.update({"NoName": "value", "Twice": "value", "TooMany": "what most", "BadText": "line item", "BadLine": "line error"})
METHODS = {("machines", "Machine"): ("__init__", "__eq__", "__str__", "read"), ("programs", "Program"): ("__init__", "__eq__", "__str__", "read"),
           ("papers", "Paper"): ("__init__", "__eq__", "__bool__"), ("papers", "Denial"): ("__eq__", "__bool__"), ("desks", "Desk"): ("__init__", "tell")}


def parameters(function):
    return " ".join(inspect.signature(function).parameters)


class InterfaceTest(Case):

    def test_functions(self):
        for section, names in FUNCTIONS.items():
            module = import_module(f"timesfloor.{section}")
            for name, told in names.items():
                function = getattr(module, name)
                self.assertTrue(inspect.isfunction(function), name)
                self.assertEqual(function.__module__, module.__name__, name)
                self.assertEqual(parameters(function), told, name)

    def test_classes(self):
        for section, names in CLASSES.items():
            module = import_module(f"timesfloor.{section}")
            for name, told in names.items():
                kind = getattr(module, name)
                self.assertTrue(inspect.isclass(kind), name)
                self.assertEqual(kind.__module__, module.__name__, name)
                self.assertEqual(parameters(kind), told, name)

    def test_methods(self):
        for (section, name), methods in METHODS.items():
            kind = getattr(import_module(f"timesfloor.{section}"), name)
            for method in methods:
                self.assertIn(method, vars(kind), name)
            if "read" in methods:
                self.assertEqual(parameters(kind.read), "text")
            if "tell" in methods:
                self.assertEqual(parameters(kind().tell), "line")

    def test_errors(self):
        for name, told in ERRORS.items():
            kind = getattr(errors, name)
            self.assertEqual(kind.__module__, errors.__name__)
            self.assertEqual(kind.__bases__, (errors.TileError,))
            self.assertEqual(parameters(kind), told)
        self.assertEqual(errors.TileError.__bases__, (ValueError,))
        own = {name for name, value in vars(errors).items() if inspect.isclass(value)}
        self.assertEqual(own, {*ERRORS, "TileError"})

    def test_papers(self):
        """All classes of papers are directly below Paper, those of denials directly below Denial."""
        denials = {"Stops", "Clash", "Dies", "Unsure", "Maybe", "Gap", "Straight", "Ends"}
        papers = {"Goes", "Fits", "Returns", "Stays", "Never", "Band", "Round", "Runs"}
        self.assertEqual({kind.__name__ for kind in Paper.__subclasses__() if kind.__module__.startswith("timesfloor")}, papers | {"Denial"})
        self.assertEqual({kind.__name__ for kind in Denial.__subclasses__() if kind.__module__.startswith("timesfloor")}, denials)
