"""Run every test of the project, and every test that stands in ../shared/tests.

The closing line tells how many passed and how many failed.
"""

import os
import sys
import unittest

ROOT = os.path.dirname(os.path.dirname(os.path.abspath(__file__)))
OWN = os.path.join(ROOT, "tests")
SHARED = os.path.join(os.path.dirname(ROOT), "shared", "tests")


class Counted(unittest.TextTestResult):
    """A result that counts the tests that passed."""

    def __init__(self, *handed, **named):
        super().__init__(*handed, **named)
        self.passed = 0

    def addSuccess(self, test):
        super().addSuccess(test)
        self.passed += 1


def holds_tests(folder):
    if not os.path.isdir(folder):
        return False
    return any(name.startswith("test_") and name.endswith(".py") for name in os.listdir(folder))


def all_tests():
    suite = unittest.TestSuite()
    suite.addTests(unittest.TestLoader().discover(OWN, "test_*.py", ROOT))
    if holds_tests(SHARED):
        suite.addTests(unittest.TestLoader().discover(SHARED, "test_*.py", SHARED))
    return suite


def main():
    sys.path.insert(0, ROOT)
    result = unittest.TextTestRunner(stream=sys.stdout, resultclass=Counted).run(all_tests())
    failed = result.testsRun - result.passed - len(result.skipped) - len(result.expectedFailures)
    if not result.wasSuccessful():
        # What fails outside of a test, in setUpModule or the like, is not among the tests run.
        failed = max(1, failed)
    print(f"{result.passed} passed, {failed} failed, {len(result.skipped)} skipped", flush=True)
    sys.exit(0 if failed == 0 and result.passed > 0 else 1)


if __name__ == "__main__":
    main()
