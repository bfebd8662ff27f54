"""All examples of the interface, section by section; names go on from each one to the next."""

from importlib import import_module

from tests import examples_desks, examples_floors, examples_judged, examples_machines, examples_programs, examples_rounds
from tests import test_checks, test_number_texts, test_numbers
from tests.helpers import Case

SECTIONS = (
    ("errors", ""), ("checks", test_checks.EXAMPLES), ("numbers", test_numbers.EXAMPLES), ("number_texts", test_number_texts.EXAMPLES),
    ("papers", examples_machines.PAPERS), ("machines", examples_machines.MACHINES), ("changes", examples_machines.CHANGES),
    ("runs", examples_machines.RUNS), ("check_runs", examples_machines.CHECK_RUNS), ("rows", examples_floors.ROWS), ("tiles", examples_floors.TILES),
    ("floors", examples_floors.FLOORS), ("check_floors", examples_floors.CHECK_FLOORS), ("stretches", examples_floors.STRETCHES),
    ("judged", examples_judged.JUDGED), ("nevers", examples_judged.NEVERS), ("check_judged", examples_judged.CHECK_JUDGED),
    ("bands", examples_judged.BANDS), ("check_bands", examples_rounds.CHECK_BANDS), ("rounds", examples_rounds.ROUNDS),
    ("check_rounds", examples_rounds.CHECK_ROUNDS), ("programs", examples_programs.PROGRAMS), ("courses", examples_programs.COURSES),
    ("check_courses", examples_programs.CHECK_COURSES), ("leads", examples_programs.LEADS), ("pictures", examples_desks.PICTURES),
    ("desks", examples_desks.DESKS), ("scripts", examples_desks.SCRIPTS),
)


class ExamplesTest(Case):

    def test_all(self):
        names = {}
        for section, text in SECTIONS:
            # What a section defines stands for that name from there on, as its imports are left out.
            module = import_module(f"timesfloor.{section}")
            names.update({name: value for name, value in vars(module).items() if getattr(value, "__module__", None) == module.__name__})
            self.check_examples(text, names)
