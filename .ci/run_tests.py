"""Runs every test_*.py below the folders named, and ends with the count of tests that were run."""

import os
import pathlib
import re
import subprocess
import sys

ROOT = pathlib.Path(__file__).resolve().parent.parent
NO_TESTS_RAN = 5


def run_file(path):
    """Run one test file; answer how many tests ran and how many of them failed."""
    # A process for each file: two folders may hold files of the same name.
    command = [sys.executable, "-B", "-m", "unittest", "discover", "-s", str(path.parent), "-p", path.name]
    environment = dict(os.environ, PYTHONPATH=str(ROOT))
    done = subprocess.run(
        command, cwd=ROOT, env=environment, stdout=subprocess.PIPE, stderr=subprocess.STDOUT, text=True
    )
    print(f"== {path}\n{done.stdout}", flush=True)
    counts = re.findall(r"^Ran (\d+) tests? in ", done.stdout, re.MULTILINE)
    ran = int(counts[-1]) if counts else 0
    if counts and done.returncode in (0, NO_TESTS_RAN):
        return ran, 0
    faults = re.findall(r"(?:failures|errors|unexpected successes)=(\d+)", done.stdout.rpartition("FAILED (")[2])
    return ran, max(1, sum(int(fault) for fault in faults))


def run_folder(folder):
    if not folder.is_dir():
        sys.exit(f"no such folder of tests: {folder}")
    results = [run_file(path) for path in sorted(folder.rglob("test_*.py"))]
    return sum(ran for ran, failed in results), sum(failed for ran, failed in results)


def main(names):
    results = [run_folder((ROOT / name).resolve()) for name in names]
    ran = sum(count for count, failed in results)
    failed = sum(failed for count, failed in results)
    print(f"{ran} tests were run")
    print(f"{max(0, ran - failed)} passed, {failed} failed")
    return 1 if failed or not ran else 0


sys.exit(main(sys.argv[1:]))
