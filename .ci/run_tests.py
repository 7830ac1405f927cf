"""Runs every test of the project, and every test under ../shared/tests, each file in a process of its own.

Where a Python 3.13 is at hand besides the one that runs this, all files are run by both.
Behind all tests it prints one line: N passed, N failed.
"""

import concurrent.futures
import os
import pathlib
import re
import shutil
import subprocess
import sys

ROOT = pathlib.Path(__file__).resolve().parent.parent
SHARED = ROOT.parent / "shared" / "tests"
LONGEST = 1800


def pythons():
    """This Python, and a Python 3.13 if there is another one that starts."""
    found = [sys.executable]
    places = [shutil.which("python3.13")]
    places += sorted(pathlib.Path.home().glob(".pyenv/versions/3.13*/bin/python3"))
    for place in places:
        if sys.version_info[:2] == (3, 13) or place is None:
            continue
        done = subprocess.run([str(place), "-c", "import unittest"], capture_output=True)
        if done.returncode == 0:
            return found + [str(place)]
    return found


def jobs():
    """Triples of a Python, a folder to run in, and the name of a file of tests there."""
    files = [(ROOT, "tests." + path.stem) for path in sorted((ROOT / "tests").glob("test_*.py"))]
    if SHARED.is_dir():
        files += [(path.parent, path.stem) for path in sorted(SHARED.rglob("test_*.py"))]
    return [(python, folder, name) for python in pythons() for folder, name in files]


def run(job):
    """The output of one file of tests, and how many of its tests passed and failed."""
    python, folder, name = job
    settings = dict(os.environ, PYTHONPATH=str(ROOT), PYTHONDONTWRITEBYTECODE="1")
    try:
        done = subprocess.run([python, "-m", "unittest", name], cwd=folder, env=settings, text=True, timeout=LONGEST,
                              stdin=subprocess.DEVNULL, stdout=subprocess.PIPE, stderr=subprocess.STDOUT)
    except subprocess.TimeoutExpired:
        return f"{name} took too long\n", 0, 1
    ran = re.search(r"^Ran (\d+) tests?", done.stdout, re.MULTILINE)
    count = int(ran.group(1)) if ran else 0
    bad = len(re.findall(r"^(?:FAIL|ERROR|UNEXPECTED SUCCESS): ", done.stdout, re.MULTILINE))
    # A process that ended badly is a failure, whatever it printed; 5 says that there was no test in the file.
    if done.returncode not in (0, 5):
        bad = max(bad, 1)
    return done.stdout, max(count - bad, 0), bad


def main():
    passed = failed = 0
    todo = jobs()
    with concurrent.futures.ThreadPoolExecutor(max_workers=os.cpu_count() or 1) as pool:
        for (python, folder, name), (output, good, bad) in zip(todo, pool.map(run, todo)):
            print(f"{name} of {folder}, {python}: {good} passed, {bad} failed" if bad else f"{name}: {good}", flush=True)
            if bad:
                print(output, flush=True)
            passed += good
            failed += bad
    print(f"{passed} passed, {failed} failed")
    return 1 if failed or not passed else 0


if __name__ == "__main__":
    sys.exit(main())
