"""The package is held against LANGUAGE.md, and the checks themselves against code that breaks its rules."""

import unittest
from pathlib import Path

from checks.language import findings
from checks.source import read_package

ROOT = Path(__file__).resolve().parent.parent

# Each piece of code breaks the rule that it stands under.
BROKEN = {
    "L2": [
        "from rescans.words import *\n",
        "from rescans.words import low as high\n",
        "from .words import low\n",
        "from re import match\n",
        "from math import sqrt\n",
        "def f():\n    from rescans.words import low\n    return low\n",
        "N = 1\nfrom rescans.words import low\n",
        "from math import gcd\ndef f(xs):\n    return sorted(xs, key=gcd)\n",
    ],
    "L3": [
        "A, B = 0, 1\n",
        "N = 1\nN += 1\n",
        "N = len('a')\n",
        "for k in (1, 2):\n    pass\n",
        "T = {'a': 1}\ndef f(k):\n    return T[k](1)\n",
    ],
    "L4": [
        "def f(*xs):\n    return xs\n",
        "def f(a, /):\n    return a\n",
        "def f(a=[]):\n    return a\n",
        "def g():\n    return 1\ndef f(a=g()):\n    return a\n",
        "def f():\n    return lambda x: x\n",
        "class A:\n    @staticmethod\n    def f(x):\n        return x\n",
    ],
    "L5": [
        "class A:\n    N = 1\n",
        "class A:\n    def __hash__(self):\n        return 1\n",
        "class A(dict):\n    def f(self):\n        return 1\n",
        "class A:\n    def f(this):\n        return 1\n",
        "class A:\n    @property\n    def f(self):\n        self.n = 1\n        return 1\n",
        "class A:\n    def __contains__(self, x):\n        self.rows.append(x)\n        return True\n",
        "class Bad(ValueError):\n    def f(self):\n        return 1\n",
    ],
    "L6": [
        "def f(x):\n    global N\n    return x\n",
        "def f(x):\n    match x:\n        case 1:\n            return x\n",
        "def f(x):\n    with x:\n        return 1\n",
        "def f(x):\n    try:\n        return x\n    finally:\n        pass\n",
        "def f(x):\n    del x\n",
        "def f(xs):\n    a, *b = xs\n    return a, b\n",
        "def f(x):\n    x == 1\n",
        "def f(x:\n",
    ],
    "L7": [
        "def f(x):\n    return x / 2\n",
        "def f():\n    return 1.5\n",
        "def f(xs):\n    return any(x for x in xs)\n",
        "def f(xs):\n    return [*xs, 1]\n",
        "def g(x):\n    return x\ndef f(xs):\n    return g(*xs)\n",
        "def f(x):\n    if (y := x):\n        return y\n",
        "def f(k):\n    return (1, 2)[k]\n",
        "def f(xs):\n    return [[x for x in xs] for x in xs]\n",
        "def f(n):\n    return f'{n:>5}'\n",
        "def f():\n    return b'a'\n",
    ],
    "L8": [
        "def f(xs):\n    return iter(xs)\n",
        "def f(x):\n    return callable(x)\n",
        "def f(x):\n    return nowhere\n",
        "def f(x):\n    return x.__class__\n",
    ],
    "L9": ["def f(x):\n    print(x)\n", "def f(x):\n    return open(x)\n"],
    "L10": [
        "def f(x):\n" + "    x = x + 1\n" * 40,
        "N = 1\n" + "\n" * 399 + "M = 1\n",
        "# " + "a" * 119 + "\n",
        "def f(x):\n\treturn x\n",
    ],
    "L11": [
        "def f(x):\n    return f(x)\n",
        "def f(x):\n    return g(x)\ndef g(x):\n    return f(x)\n",
        "class A:\n    def f(self):\n        return self.f()\n",
    ],
    "L12": [
        "def f(__x):\n    return 1\n",
        "def f(xs):\n    return [_ for _ in xs]\n",
        "class _A:\n    def f(self):\n        return 1\n",
        "# a _wall\n",
        "def _lay_f(x):\n    return x\n",
        "def _cold(x):\n    return x\n",
    ],
    "L13": [
        "def f(x):\n    return sorted({1, 2, 3})\n",
        "def f(xs):\n    return min(xs, key=lambda x: x[0]), max(xs, key=lambda x: x[0])\n",
    ],
    "L14": ["# \u00e9\n"],
    "L15": [
        "N = 1\nN = 2\n",
        "def f(x):\n    return x\ndef f(x):\n    return x\n",
        "def f(id):\n    return id\n",
        "def f():\n    min = 1\n    return min\n",
        "class A:\n    def f(self):\n        return 1\ndef f(A):\n    return A\n",
        "T = [1]\ndef f():\n    T.append(1)\n",
        "T = [1]\ndef f():\n    return T\n",
        "T = {'a': 1}\ndef f():\n    T['a'] = 2\n",
        "def f():\n    class A:\n        def g(self):\n            return 1\n    return A()\n",
    ],
    "L16": ["import math\n", "import rescans.words\n", "from rescans.words import gone\n", "from rescans.words import gcd\n"],
    "L17": [
        "def law(x):\n    return x\n",
        "def f(x):\n    return type(x) is int\n",
        "def f():\n    return 'an enum'\n",
        "def f(x):\n    return x.tb_next\n",
        "def dataclass_of(x):\n    return x\n",
    ],
    "L18": [
        "class A:\n    def f(self):\n        return 1\ndef g():\n    return [A]\n",
        "class A:\n    def f(self):\n        return 1\n    def f(self):\n        return 2\n",
        "class A:\n    def __init__(self):\n        self.f = 1\n    def f(self):\n        return 1\n",
        "def f(x):\n    return x.nowhere\n",
        "def f(x):\n    x.a.b = 1\n    x.a = 1\n",
    ],
    "L19": [
        "def f():\n    raise ValueError('a')\n",
        "class Bad(ValueError):\n    \"\"\"Bad.\"\"\"\ndef f():\n    raise Bad\n",
        "def f(x):\n    try:\n        return x\n    except ValueError:\n        return 1\n",
        "def f(x):\n    try:\n        return x\n    except:\n        return 1\n",
        "class Bad(ValueError):\n    \"\"\"Bad.\"\"\"\n"
        "def f(x):\n    try:\n        return x\n    except Bad as e:\n        return e\n",
        "def f(x):\n    raise\n",
    ],
    "L20": ["def f(x):\n    return x is 1000\n", "def f(x, y):\n    return x is y\n"],
    "L21": ["def f(x: int):\n    return x\n", "def f(x) -> int:\n    return x\n", "def f(x):\n    y: int = x\n    return y\n"],
    "L22": [
        "def f(xs):\n    return [len, xs]\n",
        "def f(xs):\n    return sorted(xs, True)\n",
        "def f(xs):\n    return len(xs, xs)\n",
        "def g(a):\n    return a\ndef f(xs):\n    return g(xs, 1)\n",
        "def g(a, *, b):\n    return a, b\ndef f(xs):\n    return g(xs)\n",
        "def f(x):\n    return isinstance(x, set)\n",
        "class Bad(ValueError):\n    \"\"\"Bad.\"\"\"\ndef f(x):\n    raise Bad(x)\n",
        "class A:\n    def f(self, x):\n        return x\ndef g(a):\n    return a.f()\n",
    ],
    "L23": [
        "def f(xs):\n    it = zip(xs, xs)\n    return it\n",
        "def f(d):\n    return d.items()\n",
        "def f(n):\n    return range(n)\n",
        "def f(xs):\n    for x in xs:\n        xs.append(x)\n",
        "def f(d):\n    for k in d.keys():\n        del d[k]\n",
        "def f(d):\n    for k, v in enumerate(d):\n        d[k] = v\n",
        "from heapq import heappop\ndef f(d):\n    for k in d:\n        heappop(d)\n",
        "def g(xs):\n    yield xs\ndef f(xs):\n    return g(xs)\n",
        "def g(xs):\n    yield xs\n    return 1\n",
        "def g(xs):\n    x = yield xs\n",
    ],
    "L24": [
        "def f(xs):\n    for x in set(xs):\n        return x\n",
        "def f(xs):\n    ys = set(xs)\n    return ys\n",
        "def f(xs):\n    return len(set({x for x in xs}))\n",
        "def f(xs):\n    return set(xs) == xs\n",
    ],
    "L25": [
        "def f(x):\n    return x.encode()\n",
        "def f(x):\n    return x.split(sep='a')\n",
        "def f(x):\n    return x.append(1, 2)\n",
        "class A:\n    def g(self):\n        return 1\ndef f(x):\n    return [x.g]\n",
    ],
    "L26": [
        "class A:\n    def items(self):\n        return 1\n",
        "class A:\n    def __init__(self):\n        self.args = 1\n",
        "class A:\n    def decode(self):\n        return 1\n",
    ],
    "L27": [
        "def f(n):\n    return 2 ** n\n",
        "def f(n):\n    return '%'\n",
        "def f(n):\n    return chr(n)\n",
        "def f(n):\n    return '\\x41'\n",
        "def f(n):\n    return r'a'\n",
        "def f(n):\n    return f\"{'a'}\"\n",
        "def f(n):\n    return '__a__'\n",
        "def f(n):\n    return 1if n else 2\n",
    ],
    "L28": [
        "class A:\n    def __init__(self):\n        return None\n",
        "class A:\n    def __len__(self):\n        return self.n\n",
        "class A:\n    def __eq__(self, other):\n        self.n = 1\n        return True\n",
        "def __len__(self):\n    return 1\n",
    ],
}

CLEAN = '''"""Forms that the rules allow."""

from heapq import heappop, heappush
from math import gcd

from rescans.words import low

MOST = 60
NAMES = ("a", "b")

class Bad(ValueError):
    """An error."""


class Worse(Bad):
    """An error with a field."""

    def __init__(self, limit):
        self.limit = limit


class Box:
    """Some rows."""

    def __init__(self, rows):
        self._rows = list(rows)

    @property
    def rows(self):
        return tuple(self._rows)

    def __len__(self):
        return len(self._rows)

    def __contains__(self, x):
        return isinstance(x, str) and x in self._rows

    def __eq__(self, other):
        return isinstance(other, Box) and self._rows == other._rows

    def put(self, row, *, at=0):
        self._rows.insert(at, row)


def first_of(rows):
    return low(rows[0])


TABLE = {"first": first_of}


def cheapest(costs):
    queue = []
    for name, cost in costs.items():
        heappush(queue, (cost // gcd(cost, 2), name))
    return heappop(queue) if queue else None


def squares(many):
    for k in range(many):
        yield k ** 2


def total(many, name):
    """The sum of some squares."""
    action = TABLE[name]
    box = Box([action([k]) for k in squares(many)])
    box.put(1, at=2)
    if len(box) > MOST or "a" in box:
        raise Worse(MOST)
    try:
        return sum(box.rows, start=1)
    except Worse as error:
        return error.limit


def ordered(rows):
    known = sorted(set(rows))
    if known == []:
        raise Bad(f"none of {len(rows)}")
    pairs = {k: row for k, row in enumerate(known) if row is not None}
    return sorted(pairs, key=lambda k: (-k, pairs[k])), all([row != "" for row in NAMES])
'''

WORDS = "def low(x):\n    return x\n"


def broken_rules(code, **others):
    files = {"__init__.py": b"", "words.py": WORDS.encode(), "rows.py": code.encode()}
    files.update({f"{name}.py": text.encode() for name, text in others.items()})
    return {one.rule for one in findings("rescans", files)}


class LanguageTest(unittest.TestCase):
    def test_the_package(self):
        found = findings("rescans", read_package(ROOT / "rescans"))
        self.assertEqual([str(one) for one in found], [])

    def test_allowed_forms(self):
        files = {"__init__.py": b'"""A package."""\n', "words.py": WORDS.encode(), "rows.py": CLEAN.encode()}
        self.assertEqual([str(one) for one in findings("rescans", files)], [])

    def test_each_rule_is_checked(self):
        for rule, codes in BROKEN.items():
            for code in codes:
                with self.subTest(rule=rule, code=code):
                    self.assertIn(rule, broken_rules(code))
        checked = {f"L{k}" for k in range(1, 29)} - set(BROKEN)
        self.assertEqual(checked, {"L1"})

    def test_names_of_files(self):
        text = b"N = 1\n"
        for name, rule in [("notes.txt", "L1"), ("a-b.py", "L1"), ("sub/words.py", "L1"), ("Words.py", "L14"),
                           ("test_words.py", "L14"), ("enum.py", "L14"), ("sum.py", "L14"), ("__main__.py", "L9")]:
            with self.subTest(name=name):
                found = findings("rescans", {"__init__.py": b"", name: text})
                self.assertIn(rule, {one.rule for one in found})
        self.assertIn("L1", {one.rule for one in findings("rescans", {"__init__.py": b"", "a.py": b"# \xff\n"})})
        self.assertIn("L14", {one.rule for one in findings("rescans", {"a.py": text})})
        self.assertIn("L14", {one.rule for one in findings("queue", {"__init__.py": b""})})
        many = {f"a{k}.py": text for k in range(100)}
        self.assertIn("L14", {one.rule for one in findings("rescans", {"__init__.py": b"", **many})})

    def test_files_that_import_from_each_other(self):
        self.assertIn("L16", broken_rules(
            "from rescans.more import high\ndef mid(x):\n    return high(x)\n",
            more="from rescans.rows import mid\ndef high(x):\n    return mid(x)\n"))

    def test_calls_in_circles_over_two_files(self):
        self.assertIn("L11", broken_rules(
            "from rescans.more import high\ndef mid(x):\n    return high(x)\n",
            more="from rescans.rows import mid\ndef high(x):\n    return mid(x)\n"))

    def test_a_finding_tells_its_place(self):
        found = findings("rescans", {"__init__.py": b"", "a.py": b"N = 1\n\n\ndef f(x):\n    return x / 2\n"})
        self.assertEqual([(one.rule, one.file, one.line) for one in found], [("L7", "a.py", 5)])
        self.assertTrue(str(found[0]).startswith("a.py:5: L7: "))


if __name__ == "__main__":
    unittest.main()
