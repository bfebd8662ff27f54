"""Runs the tests beside the package and those under ../shared/tests; ends with 1 if one fails."""

import pathlib
import sys
import unittest

ROOT = pathlib.Path(__file__).resolve().parent.parent
SHARED = ROOT.parent / "shared" / "tests"


def suites():
    loader = unittest.TestLoader()
    yield loader.discover(str(ROOT / "tests"), top_level_dir=str(ROOT))
    # One by one, so that a file in a folder below is found too.
    for path in sorted(SHARED.rglob("test_*.py")):
        yield unittest.TestLoader().discover(str(path.parent), pattern=path.name, top_level_dir=str(path.parent))


def main():
    sys.path.insert(0, str(ROOT))
    result = unittest.TextTestRunner(stream=sys.stdout, verbosity=1).run(unittest.TestSuite(suites()))
    failed = len(result.failures) + len(result.errors) + len(result.unexpectedSuccesses)
    skipped = len(result.skipped)
    passed = max(0, result.testsRun - failed - skipped)
    print(f"{passed} passed, {failed} failed, {skipped} skipped")
    return 0 if result.wasSuccessful() and passed > 0 else 1


if __name__ == "__main__":
    sys.exit(main())
