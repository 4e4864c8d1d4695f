"""Run each test file by itself; fail where one fails, or where no test ran."""

import os
import re
import subprocess
import sys
from pathlib import Path

ROOT = Path(__file__).resolve().parent.parent
FOLDERS = (ROOT / "tests", ROOT.parent / "shared" / "tests")
RAN = re.compile(r"^Ran (\d+) tests? in ", re.MULTILINE)


def run_file(path):
    """Tell how many tests of a file ran, whether all held, and what was printed."""
    # Apart from each other, files of one name in two folders can't meet.
    done = subprocess.run(
        [sys.executable, "-m", "unittest", path.stem],
        cwd=path.parent,
        env=dict(os.environ, PYTHONPATH=str(ROOT)),
        stdin=subprocess.DEVNULL,
        stdout=subprocess.PIPE,
        stderr=subprocess.STDOUT,
        text=True,
    )
    counts = RAN.findall(done.stdout)
    many = int(counts[-1]) if counts else 0
    return many, done.returncode == 0 and many > 0, done.stdout


def main():
    """Run all files and tell the exit code."""
    total = passed = failed = 0
    for folder in FOLDERS:
        for path in sorted(folder.rglob("test_*.py")):
            many, held, printed = run_file(path)
            total += many
            passed += held
            failed += not held
            print(f"{'ok' if held else 'FAILED'}: {path} ({many} tests)", flush=True)
            if not held:
                print(printed, flush=True)
    print(f"tests run: {total}")
    print(f"files: {passed} passed, {failed} failed")
    return 0 if total > 0 and failed == 0 else 1


sys.exit(main())
