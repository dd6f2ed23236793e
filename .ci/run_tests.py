"""Runs every test of the project and every test under ../shared/tests, and closes with their count."""

import os
import re
import subprocess
import sys
from pathlib import Path

ROOT = Path(__file__).resolve().parent.parent
OWN = ROOT / "tests"
SHARED = ROOT.parent / "shared" / "tests"


def run_file(path):
    """Run the tests of a file in a process of its own; return their number and whether all passed."""
    # A process each, because a shared file may have the name of one of the project.
    command = [sys.executable, "-m", "unittest", "discover", "-s", str(path.parent), "-p", path.name]
    settings = dict(os.environ, PYTHONPATH=str(ROOT), PYTHONDONTWRITEBYTECODE="1")
    done = subprocess.run(command, cwd=ROOT, env=settings, stderr=subprocess.PIPE, text=True)
    told = re.findall(r"^Ran (\d+) tests? in ", done.stderr, re.MULTILINE)
    count = int(told[-1]) if told else 0
    passed = done.returncode == 0 and count > 0
    print(f"{path}: {count} tests, {'passed' if passed else 'FAILED'}", flush=True)
    if not passed:
        print(done.stderr, flush=True)
    return count, passed


def main():
    own = sorted(OWN.rglob("test_*.py"))
    results = [run_file(path) for path in own + sorted(SHARED.rglob("test_*.py"))]
    failed = len([passed for _, passed in results if not passed])
    if not own:
        print("the project has no tests")
    print(f"{failed} of {len(results)} files failed")
    print(f"{sum(count for count, _ in results)} tests ran")
    return 1 if failed or not own else 0


sys.exit(main())
