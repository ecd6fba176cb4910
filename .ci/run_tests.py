"""Runs every test_*.py below some folders, the first of which must hold one, and counts the tests.

Each file runs in a process of its own, so files of one name in unlike folders do not meet.
"""

import os
import re
import subprocess
import sys
from pathlib import Path

ROOT = Path(__file__).resolve().parent.parent


def run_file(path):
    """The numbers of the tests of a file that ran, failed and were skipped."""
    folders = [str(path.resolve().parent), str(ROOT)]
    done = subprocess.run(
        [sys.executable, "-m", "unittest", path.stem],
        cwd=ROOT,
        env={**os.environ, "PYTHONPATH": os.pathsep.join(folders)},
        stdin=subprocess.DEVNULL,
        stdout=subprocess.PIPE,
        stderr=subprocess.STDOUT,
        text=True,
        errors="replace",
    )
    ran = re.findall(r"^Ran (\d+) tests? in", done.stdout, re.MULTILINE)
    ran = int(ran[-1]) if ran else 0
    last = done.stdout.strip().rsplit("\n", 1)[-1]
    skipped = sum(int(many) for many in re.findall(r"skipped=(\d+)", last))
    failed = 0
    # 5 tells, from Python 3.12 on, that the file holds no test.
    if done.returncode not in (0, 5):
        told = re.findall(r"(?:failures|errors|unexpected successes)=(\d+)", last)
        failed = max(1, sum(int(many) for many in told))
        print(done.stdout)
    print(f"{path}: {ran} ran, {failed} failed, {skipped} skipped", flush=True)
    return ran, failed, skipped


def main(folders):
    counts = []
    for folder in folders:
        paths = sorted(Path(folder).rglob("test_*.py"))
        if not paths and folder == folders[0]:
            print(f"no test in {folder}")
            return 1
        counts.extend(run_file(path) for path in paths)
    ran, failed, skipped = (sum(column) for column in zip(*counts))
    passed = max(0, ran - failed - skipped)
    print(f"{ran} tests ran in {len(counts)} files")
    print(f"{passed} passed, {failed} failed, {skipped} skipped")
    return 1 if failed or not ran else 0


if __name__ == "__main__":
    sys.exit(main(sys.argv[1:]))
