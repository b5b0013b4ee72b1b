"""Runs the tests of the project and those under ../shared/tests, folder by folder, and counts them."""

import os
import re
import subprocess
import sys

ROOT = os.path.dirname(os.path.dirname(os.path.abspath(__file__)))
OWN = os.path.join(ROOT, "tests")
SHARED = os.path.join(os.path.dirname(ROOT), "shared", "tests")


def folders_with_tests(top):
    """All folders below this one, itself among them, that hold a file test_*.py."""
    found = []
    for folder, _, files in os.walk(top):
        if any(re.fullmatch(r"test_.*\.py", name) for name in files):
            found.append(folder)
    return sorted(found)


def run_folder(folder):
    """Runs the tests of a folder; how many ran, how many of these failed, and whether all is well."""
    print("tests in", os.path.relpath(folder, ROOT), flush=True)
    command = [sys.executable, "-m", "unittest", "discover", "-s", folder, "-t", folder, "-p", "test_*.py"]
    paths = [ROOT, *filter(None, [os.environ.get("PYTHONPATH")])]
    done = subprocess.run(command, cwd=ROOT, env={**os.environ, "PYTHONPATH": os.pathsep.join(paths)},
                          stdout=subprocess.PIPE, stderr=subprocess.STDOUT, text=True, errors="replace")
    print(done.stdout, flush=True)
    ran = re.findall(r"^Ran (\d+) tests? in", done.stdout, re.MULTILINE)
    count = int(ran[-1]) if ran else 0
    closing = done.stdout.strip().split("\n")[-1]
    failed = sum(int(told) for told in re.findall(r"(?:failures|errors|unexpected successes)=(\d+)", closing))
    is_well = done.returncode == 0 and count > 0
    return count, max(failed, 0 if is_well else 1), is_well


def main():
    """Runs all folders; 0 if no test failed."""
    total = wrong = 0
    all_well = True
    for folder in folders_with_tests(OWN) + folders_with_tests(SHARED):
        count, failed, is_well = run_folder(folder)
        total += count
        wrong += failed
        all_well = all_well and is_well
    print(f"{total} tests ran")
    print(f"{max(total - wrong, 0)} passed, {wrong} failed")
    return 0 if all_well and total > 0 else 1


if __name__ == "__main__":
    sys.exit(main())
