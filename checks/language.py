"""Holds a package against LANGUAGE.md: python3 -m checks.language rescans

The checks are narrower than the rules: forms that the package does not need are refused whole (match, with,
finally, nonlocal, global, annotations, stars, stored sets, kept ranges, generator expressions, bytes and others),
under the number of the rule that describes them. A later file that needs such a form widens its check here.
"""

import sys

from checks.classes import check_classes
from checks.expressions import check_expressions
from checks.modules import check_modules
from checks.source import Finding, Module, Package, read_package
from checks.statements import check_statements
from checks.texts import check_files, check_texts

PARTS = (check_texts, check_modules, check_classes, check_statements, check_expressions)


def findings(name, files):
    """What breaks a rule in a package: its name, and a dict from file names to bytes."""
    found = list(check_files(name, files))
    modules = []
    for file, data in files.items():
        if not file.endswith(".py") or "/" in file:
            continue
        try:
            modules.append(Module(file, data.decode("utf-8")))
        except (SyntaxError, ValueError) as error:
            found.append(Finding("L6", file, 1, f"Python cannot read it: {error}"))
    package = Package(name, modules)
    for part in PARTS:
        found.extend(part(package))
    return sorted({*found}, key=lambda one: (one.file, one.line, one.rule, one.why))


def main(folder):
    found = findings(folder.rstrip("/").rpartition("/")[2], read_package(folder))
    for one in found:
        print(one)
    print(f"{len(found)} findings in {folder}")
    return 1 if found else 0


if __name__ == "__main__":
    sys.exit(main(sys.argv[1]))
