"""Runs each test file in a process of its own, so that two folders may hold files of the same name."""

import os
import pathlib
import re
import subprocess
import sys

ROOT = pathlib.Path(__file__).resolve().parent.parent
FOLDERS = (ROOT / "tests", ROOT.parent / "shared" / "tests")
COUNT = re.compile(r"^Ran (\d+) tests? in", re.MULTILINE)


def run_file(path):
    """How many tests of a file ran, and whether all is well with it."""
    command = [sys.executable, "-B", "-m", "unittest", "discover", "-s", str(path.parent), "-p", path.name]
    surroundings = dict(os.environ, PYTHONPATH=str(ROOT))
    done = subprocess.run(command, cwd=ROOT, env=surroundings, stderr=subprocess.PIPE, text=True)
    counted = COUNT.search(done.stderr)
    ran = int(counted.group(1)) if counted else 0
    good = done.returncode == 0 and ran > 0
    print(f"{'ok' if good else 'FAILED'}: {path}: {ran} tests", flush=True)
    if not good:
        print(done.stderr, flush=True)
    return ran, good


def run_folder(folder):
    """How many tests under a folder ran, and whether all is well with them."""
    if not folder.is_dir():
        # A run that can not see the tests must not pass for one that ran them.
        print(f"FAILED: no folder {folder}")
        return 0, False
    results = [run_file(path) for path in sorted(folder.rglob("test_*.py"))]
    return sum(ran for ran, good in results), all(good for ran, good in results)


def main():
    results = [run_folder(folder) for folder in FOLDERS]
    good = all(good for ran, good in results) and results[0][0] > 0
    total = sum(ran for ran, good in results)
    print(f"Ran {total} tests: {results[0][0]} of the project, {results[1][0]} shared. {'OK' if good else 'FAILED'}")
    return 0 if good else 1


if __name__ == "__main__":
    sys.exit(main())
