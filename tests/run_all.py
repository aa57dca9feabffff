"""Runs all tests of the project and of ../shared/tests; its last line tells how many passed and failed."""

import os
import subprocess
import sys
import unittest

ROOT = os.path.dirname(os.path.dirname(os.path.abspath(__file__)))
SHARED = os.path.join(os.path.dirname(ROOT), "shared", "tests")


class CountingResult(unittest.TextTestResult):
    """Counts what did not pass, a test with wrong parts once."""

    def __init__(self, *rest, **more):
        super().__init__(*rest, **more)
        self.wrong = set()

    def addError(self, test, err):
        super().addError(test, err)
        self.wrong.add(str(test))

    def addFailure(self, test, err):
        super().addFailure(test, err)
        self.wrong.add(str(test))

    def addSubTest(self, test, subtest, err):
        super().addSubTest(test, subtest, err)
        if err is not None:
            self.wrong.add(str(test))

    def addUnexpectedSuccess(self, test):
        super().addUnexpectedSuccess(test)
        self.wrong.add(str(test))


def run_folder(folder, top):
    """Runs the tests of one folder in this process and prints their counts."""
    suite = unittest.TestLoader().discover(folder, top_level_dir=top)
    result = unittest.TextTestRunner(stream=sys.stderr, resultclass=CountingResult).run(suite)
    failed = len(result.wrong)
    print(max(0, result.testsRun - failed - len(result.skipped)), failed)


def counts_of(folder, top):
    """Runs the tests of one folder in a process of their own: (passed, failed)."""
    words = [sys.executable, os.path.abspath(__file__), folder, top]
    path = os.pathsep.join([ROOT] + [part for part in [os.environ.get("PYTHONPATH")] if part])
    environment = dict(os.environ, PYTHONPATH=path, PYTHONDONTWRITEBYTECODE="1")
    done = subprocess.run(words, cwd=ROOT, env=environment, stdout=subprocess.PIPE, text=True)
    lines = done.stdout.split("\n")
    numbers = lines[-2].split() if len(lines) > 1 else []
    if done.returncode != 0 or len(numbers) != 2:
        return 0, 1
    return int(numbers[0]), int(numbers[1])


def holds_test(folder):
    """Whether the folder exists and holds a test."""
    if not os.path.isdir(folder):
        return False
    return any(name.startswith("test_") and name.endswith(".py") for name in os.listdir(folder))


def main():
    """Runs all; returns 0 if at least one test ran and none failed."""
    passed, failed = counts_of(os.path.join(ROOT, "tests"), ROOT)
    own = passed + failed
    if holds_test(SHARED):
        more = counts_of(SHARED, SHARED)
        passed, failed = passed + more[0], failed + more[1]
        if sum(more) == 0:
            failed += 1
    print(f"{passed} passed, {failed} failed")
    return 0 if own > 0 and passed > 0 and failed == 0 else 1


if __name__ == "__main__":
    if len(sys.argv) == 3:
        run_folder(sys.argv[1], sys.argv[2])
    else:
        sys.exit(main())
