"""Run every test of the project and every test under ../shared/tests, and tell how many ran.

Each file of tests runs in a process of its own, so that files of one name do not clash.
"""

import os
import re
import subprocess
import sys

ROOT = os.path.dirname(os.path.dirname(os.path.abspath(__file__)))
SHARED = os.path.join(os.path.dirname(ROOT), "shared", "tests")


def files_below(folder):
    """List the files test_*.py in a folder and below it."""
    found = []
    for path, _, names in os.walk(folder):
        found += [os.path.join(path, name) for name in names if re.fullmatch(r"test_.*\.py", name)]
    return sorted(found)


def module_of(path):
    """Return the name by which a file of tests is imported, and the folder that this name needs."""
    if path.startswith(os.path.join(ROOT, "tests") + os.sep):
        return os.path.relpath(path, ROOT)[:-3].replace(os.sep, "."), ROOT
    return os.path.basename(path)[:-3], os.path.dirname(path)


def run(path):
    """Run one file of tests; return the numbers of tests that ran and that failed, and of skipped ones."""
    module, folder = module_of(path)
    paths = os.pathsep.join([ROOT, folder])
    told = subprocess.run([sys.executable, "-m", "unittest", module], cwd=ROOT, text=True, stderr=subprocess.PIPE,
                          env=dict(os.environ, PYTHONPATH=paths, PYTHONDONTWRITEBYTECODE="1"))
    ran = re.search(r"^Ran (\d+) tests? in", told.stderr, re.MULTILINE)
    ran = int(ran.group(1)) if ran else 0
    closing = told.stderr.rstrip().rsplit("\n", 1)[-1]
    skipped = sum(int(number) for number in re.findall(r"skipped=(\d+)", closing))
    bad = 0
    # Python 3.12 and later end with 5 where no test ran, which is no failure of one.
    if told.returncode != 0 and not (told.returncode == 5 and ran == skipped):
        print(told.stderr, flush=True)
        numbers = re.findall(r"(?:(?<!expected )failures|errors|unexpected successes)=(\d+)", closing)
        bad = max(sum(int(number) for number in numbers), 1)
    print(f"{os.path.relpath(path, ROOT)}: {ran} tests, {'FAILED' if bad else 'ok'}", flush=True)
    return ran, bad, skipped


def main():
    """Run all files, print the closing line, and return whether something failed or nothing ran."""
    own = files_below(os.path.join(ROOT, "tests"))
    shared = files_below(SHARED)
    results = [run(path) for path in own + shared]
    ran, bad, skipped = (sum(numbers) for numbers in zip(*results))
    print(f"{ran} tests ran")
    print(f"{max(ran - bad - skipped, 0)} passed, {bad} failed" + (f", {skipped} skipped" if skipped else ""))
    return 1 if bad or ran - skipped < 1 else 0


if __name__ == "__main__":
    sys.exit(main())
