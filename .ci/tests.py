"""Runs each file test_*.py under tests and ../shared/tests, and prints how many tests that were."""

import sys
import unittest
from pathlib import Path

ROOT = Path(__file__).resolve().parent.parent
FOLDERS = (ROOT / "tests", ROOT.parent / "shared" / "tests")


def loaded(file):
    """The tests of one file, imported from its own folder."""
    # Files of the same name in two folders would otherwise be taken for one module.
    sys.modules.pop(file.stem, None)
    sys.path.insert(0, str(file.parent))
    return unittest.defaultTestLoader.loadTestsFromName(file.stem)


def main():
    sys.path.insert(0, str(ROOT))
    suite = unittest.TestSuite()
    for folder in FOLDERS:
        files = sorted(folder.rglob("test_*.py")) if folder.is_dir() else []
        tests = [loaded(file) for file in files]
        suite.addTests(tests)
        print(f"{folder}: {sum(part.countTestCases() for part in tests)} tests in {len(files)} files", flush=True)
    result = unittest.TextTestRunner(stream=sys.stdout).run(suite)
    # One test may fail in several of its parts, which are told apart above but count once here.
    wrong = {case.id() for case in map(whole_test, result.failures + result.errors)}
    wrong |= {case.id() for case in result.unexpectedSuccesses}
    failed, skipped = len(wrong), len(result.skipped)
    print(f"{max(result.testsRun - failed - skipped, 0)} passed, {failed} failed, {skipped} skipped")
    return 0 if result.wasSuccessful() and result.testsRun > 0 else 1


def whole_test(told):
    """The test that a failure belongs to, where it is told of a part of it."""
    case = told[0]
    return getattr(case, "test_case", case)


if __name__ == "__main__":
    sys.exit(main())
