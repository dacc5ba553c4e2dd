"""Run the tests beside this file, and those of ../shared/tests where there are some; end with how many passed."""

import pathlib
import sys
import unittest

ROOT = pathlib.Path(__file__).resolve().parent.parent
SHARED = ROOT.parent / "shared" / "tests"


def suites():
    """The tests of each folder that holds some."""
    found = [unittest.TestLoader().discover(str(ROOT / "tests"), top_level_dir=str(ROOT))]
    if list(SHARED.glob("test_*.py")):
        found.append(unittest.TestLoader().discover(str(SHARED), top_level_dir=str(SHARED)))
    return unittest.TestSuite(found)


def main():
    """Tell whether all passed, by the exit code, too."""
    result = unittest.TextTestRunner(stream=sys.stdout, verbosity=1).run(suites())
    failed = len(result.failures) + len(result.errors) + len(result.unexpectedSuccesses)
    passed = result.testsRun - failed - len(result.skipped)
    print(f"{passed} passed, {failed} failed, {len(result.skipped)} skipped")
    return 0 if result.wasSuccessful() and passed > 0 else 1


if __name__ == "__main__":
    sys.path.insert(0, str(ROOT))
    sys.exit(main())
