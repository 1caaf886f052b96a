"""Runs the tests of the project and those of ../shared/tests; fails if one fails, or if none runs."""

import os
import subprocess
import sys
import unittest
from pathlib import Path

TOP = Path(__file__).resolve().parent.parent
SHARED = TOP.parent / "shared" / "tests"


def own_tests_failed():
    """Runs the project's own tests."""
    tests = unittest.TestLoader().discover(str(TOP / "tests"), top_level_dir=str(TOP))
    result = unittest.TextTestRunner(stream=sys.stdout).run(tests)
    failed = len(result.failures) + len(result.errors) + len(result.unexpectedSuccesses)
    skipped = len(result.skipped)
    print(f"{result.testsRun - failed - skipped} passed, {failed} failed, {skipped} skipped", flush=True)
    return failed > 0 or result.testsRun == 0


def shared_folders():
    """The folders of ../shared/tests that hold tests; a package below one is found from there."""
    if not SHARED.is_dir():
        return []
    folders = sorted({path.parent for path in SHARED.rglob("test_*.py")} | {SHARED})
    return [
        folder
        for folder in folders
        if (folder == SHARED or not (folder / "__init__.py").exists()) and any(folder.rglob("test_*.py"))
    ]


def shared_tests_failed(folder):
    """Runs the tests of one folder as a process of its own, as its files may be named like the project's."""
    print(f"tests of {folder}:", flush=True)
    command = [sys.executable, "-m", "unittest", "discover", "-s", str(folder), "-t", str(folder), "-p", "test_*.py"]
    environment = {**os.environ, "PYTHONPATH": str(TOP)}
    return subprocess.run(command, cwd=TOP, env=environment, stderr=subprocess.STDOUT).returncode != 0


def main():
    sys.path.insert(0, str(TOP))
    failed = own_tests_failed()
    for folder in shared_folders():
        failed = shared_tests_failed(folder) or failed
    return 1 if failed else 0


if __name__ == "__main__":
    sys.exit(main())
