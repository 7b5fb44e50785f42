"""Runs every test_*.py below the folders named, and ends with a row: N passed, N failed.

Each file runs in a Python of its own, so that files of the same name in two folders, and
modules that one file leaves behind, can't get in the way of another.
"""

import json
import os
import subprocess
import sys
import unittest

TOP = os.path.dirname(os.path.dirname(os.path.abspath(__file__)))
ONE_FILE = "--one-file"


def test_files(folder):
    found = []
    for place, folders, names in os.walk(folder):
        folders.sort()
        for name in sorted(names):
            if name.startswith("test_") and name.endswith(".py"):
                found.append(os.path.join(place, name))
    return found


class Tally(unittest.TextTestResult):
    """Also keeps which tests were started, so that each is counted once, subtests or not."""

    def __init__(self, *args, **kwargs):
        super().__init__(*args, **kwargs)
        self.started = set()

    def startTest(self, test):
        super().startTest(test)
        self.started.add(test.id())

    def counts(self):
        failed = set()
        for test, trace in self.failures + self.errors:
            failed.add(getattr(test, "test_case", test).id())
        for test in self.unexpectedSuccesses:
            failed.add(test.id())
        skipped = set()
        for test, reason in self.skipped:
            skipped.add(getattr(test, "test_case", test).id())
        return {
            "passed": len(self.started - failed - skipped),
            "failed": len(failed),
            "skipped": len(skipped - failed),
        }


def run_one_file(path):
    """Runs in the Python of one file; the last row on standard output tells the counts."""
    folder, name = os.path.split(os.path.abspath(path))
    sys.path[0:1] = [folder, TOP]
    suite = unittest.defaultTestLoader.loadTestsFromName(name[: -len(".py")])
    runner = unittest.TextTestRunner(resultclass=Tally)
    print("\n" + json.dumps(runner.run(suite).counts()))


def run_apart(path):
    print(path, flush=True)
    command = [sys.executable, os.path.abspath(__file__), ONE_FILE, path]
    run = subprocess.run(command, cwd=TOP, stdout=subprocess.PIPE, text=True)
    rows = run.stdout.splitlines()
    try:
        counts = json.loads(rows[-1])
        counts = {key: counts[key] for key in ("passed", "failed", "skipped")}
    except (IndexError, KeyError, TypeError, ValueError):
        print(f"{path} ended without telling its counts")
        return {"passed": 0, "failed": 1, "skipped": 0}
    if run.returncode != 0 and counts["failed"] == 0:
        print(f"{path} ended with {run.returncode}")
        counts["failed"] = 1
    return counts


def main(folders):
    total = {"passed": 0, "failed": 0, "skipped": 0}
    for folder in folders:
        files = test_files(folder)
        if not files:
            print(f"no test_*.py below {folder}")
        for path in files:
            counts = run_apart(path)
            for key in total:
                total[key] += counts[key]
    if total["passed"] + total["failed"] == 0:
        print("not one test was run")
        total["failed"] = 1
    row = f"{total['passed']} passed, {total['failed']} failed"
    if total["skipped"]:
        row += f", {total['skipped']} skipped"
    print(row)
    return 1 if total["failed"] else 0


if __name__ == "__main__":
    if sys.argv[1:2] == [ONE_FILE]:
        run_one_file(sys.argv[2])
    else:
        sys.exit(main(sys.argv[1:]))
