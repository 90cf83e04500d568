"""Runs each file of tests by itself: those beside this one, and those under ../shared/tests, if there are any.

Each file is run under this Python, and under 3.11 and 3.13 where they are found, since the program must behave the
same under both. The last line tells how many tests passed and failed.
"""

import os
import re
import subprocess
import sys
from pathlib import Path

ROOT = Path(__file__).resolve().parent.parent
SHARED = ROOT.parent / "shared" / "tests"
VERSIONS = ("3.11", "3.13")


def version_of(command):
    """The version that a command runs, as "3.11", or None if it runs no Python."""
    code = "import sys; print(sys.version_info[0], sys.version_info[1], sep='.')"
    try:
        told = subprocess.run([command, "-c", code], capture_output=True, text=True, check=False)
    except OSError:
        return None
    return told.stdout.strip() if told.returncode == 0 else None


def interpreters():
    """The Pythons to run the tests under: version -> command, this one first."""
    found = {version_of(sys.executable): sys.executable}
    installed = Path(os.environ.get("PYENV_ROOT", "/nowhere")) / "versions"
    for version in VERSIONS:
        commands = [f"python{version}"] + [str(one) for one in sorted(installed.glob(f"{version}.*/bin/python3"))]
        for command in commands:
            if version not in found and version_of(command) == version:
                found[version] = command
    return found


def counts(output, code):
    """How many tests of one file passed, failed and were skipped."""
    ran = re.findall(r"^Ran (\d+) tests? in", output, re.MULTILINE)
    if not ran:
        return 0, 1, 0
    closing = output[output.rindex(f"Ran {ran[-1]} test"):]
    told = {word: int(many) for word, many in re.findall(r"([a-z ]+)=(\d+)", closing)}
    told = {word.strip(): many for word, many in told.items()}
    failed = sum(told.get(word, 0) for word in ("failures", "errors", "unexpected successes"))
    skipped = told.get("skipped", 0)
    # Several subtests of one test can fail, so failures can be more than tests.
    passed = max(0, int(ran[-1]) - failed - skipped)
    # From 3.12 on a file without a test ends with 5.
    if code not in (0, 5) and failed == 0:
        failed = 1
    return passed, failed, skipped


def run_file(command, path):
    environment = dict(os.environ, PYTHONPATH=str(ROOT), PYTHONDONTWRITEBYTECODE="1")
    told = subprocess.run(
        [command, "-m", "unittest", path.stem], cwd=path.parent, env=environment, text=True, check=False,
        stdin=subprocess.DEVNULL, stdout=subprocess.PIPE, stderr=subprocess.STDOUT)
    return told.stdout, told.returncode


def main():
    own = sorted((ROOT / "tests").glob("test_*.py"))
    shared = sorted(SHARED.rglob("test_*.py")) if SHARED.is_dir() else []
    total = [0, 0, 0]
    for version, command in interpreters().items():
        for path in own + shared:
            output, code = run_file(command, path)
            found = counts(output, code)
            if path in own and found == (0, 0, 0):
                print(f"{path} holds no test")
                found = (0, 1, 0)
            if found[1]:
                print(output)
            print(f"Python {version}: {path.parent.name}/{path.name}: {found[0]} passed, {found[1]} failed", flush=True)
            total = [one + other for one, other in zip(total, found)]
    print(f"{total[0]} passed, {total[1]} failed" + (f", {total[2]} skipped" if total[2] else ""), flush=True)
    return 0 if total[0] and not total[1] else 1


if __name__ == "__main__":
    sys.exit(main())
