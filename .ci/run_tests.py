"""Runs the test files (test_*.py) in and below the folders named; run it from the project's top.

Each folder that holds test files is run by itself, as files of different
folders may bear the same name. It fails if a test fails, if a folder named
isn't there, if the first one holds no test, or if a folder with test files
turns out to run none.
"""

import pathlib
import re
import subprocess
import sys


def folders_with_tests(root):
    """The folders to begin at; a folder with an __init__.py is found from the one above it."""
    top = pathlib.Path(root)
    found = set()
    for path in top.rglob("test_*.py"):
        folder = path.parent
        while folder != top and (folder / "__init__.py").exists():
            folder = folder.parent
        found.add(folder)
    return sorted(found)


def run_folder(folder):
    """How many tests ran, were skipped and failed, and whether all is well."""
    command = [sys.executable, "-m", "unittest", "discover", "-s", str(folder), "-t", str(folder), "-p", "test_*.py"]
    done = subprocess.run(command, stdout=subprocess.PIPE, stderr=subprocess.STDOUT, text=True, check=False)
    print("== %s" % folder)
    print(done.stdout, end="", flush=True)
    ran = re.findall(r"^Ran (\d+) tests? in ", done.stdout, re.MULTILINE)
    count = int(ran[-1]) if ran else 0
    last = done.stdout.strip().rpartition("\n")[2]
    skipped = sum(int(number) for number in re.findall(r"skipped=(\d+)", last))
    failed = sum(int(number) for number in re.findall(r"(?:failures|errors|unexpected successes)=(\d+)", last))
    well = done.returncode == 0 and count > 0
    if not well and failed == 0:
        failed = 1
    return count, skipped, failed, well


def main(roots):
    ran = skipped = failed = 0
    well = True
    for place, root in enumerate(roots):
        if not pathlib.Path(root).is_dir():
            print("there is no folder %s" % root)
            well = False
            continue
        folders = folders_with_tests(root)
        if not folders:
            print("== %s: no test files" % root)
            well = well and place > 0
        for folder in folders:
            count, some_skipped, some_failed, folder_well = run_folder(folder)
            ran += count
            skipped += some_skipped
            failed += some_failed
            well = well and folder_well
    if not well and failed == 0:
        failed = 1
    print("%d tests ran" % ran)
    print("%d passed, %d failed, %d skipped" % (max(0, ran - skipped - failed), failed, skipped))
    return 0 if well else 1


if __name__ == "__main__":
    sys.exit(main(sys.argv[1:]))
