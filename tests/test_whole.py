"""What holds over the whole program: its parts agree on each outcome, all letters can be signs, limits, and errors."""

import ast
import copy
import itertools
import random
import unittest
from pathlib import Path

from rescans import alike, calls, growth, least, origins, rows, runs, sources, texts, windows
from rescans.console import Console
from rescans.errors import Mismatch, NoCall, NoExpander, NoName, NoOutcome, NoText
from rescans.expanders import copier
from rescans.live import Live
from plainly import drawn, texts as all_texts
from samples import EXPANDERS, ODD, limit, of_size, thrown

LETTERS = "abcdefghijklmnopqrstuvwxyz"
PACKAGE = Path(__file__).resolve().parent.parent / "rescans"

# Each function of stage 4 and later ones with an expander, called with one that has the signs "ab".
LIMITED = {
    "value": lambda one: calls.value(one, 0, "a"), "thread": lambda one: calls.thread(one, 0, "a"),
    "values": calls.values, "shows_thread": lambda one: calls.shows_thread(one, []), "plain": calls.plain,
    "outcome": lambda one: calls.outcome(one, ""), "ends_always": calls.ends_always,
    "live_states": least.live_states, "reached_states": least.reached_states, "begins": least.begins,
    "least": least.least, "is_least": least.is_least,
    "alike": lambda one: alike.alike(copier("ab"), one), "ahead": lambda one: alike.ahead(one, one),
    "shows_alike": lambda one: alike.shows_alike(one, one, {}), "apart": lambda one: alike.apart(one, copier("ab")),
    "behind": lambda one: rows.behind(copier("ab"), one), "settled": rows.settled, "unsettled": rows.unsettled,
    "change_places": lambda one: rows.change_places(one, copier("ab")), "in_row": lambda one: rows.in_row([one]),
    "source": lambda one: sources.source(one, ""), "how_many": lambda one: sources.how_many(one, ""),
    "no_source": lambda one: sources.no_source(one, ""),
    "shows_no_source": lambda one: sources.shows_no_source(one, "", ()),
    "sources": lambda one: next(sources.sources(one, "")),
    "longest": lambda one: growth.longest(one, 0), "rate": growth.rate, "rate_paper": growth.rate_paper,
    "shows_rate": lambda one: growth.shows_rate(one, ()),
    "origins": lambda one: origins.origins(one, ""), "steps": lambda one: origins.steps(one, ""),
    "held": lambda one: origins.held(one, ""),
    "Live.outcome": lambda one: Live(one, "").outcome(), "Live.state_at": lambda one: Live(one, "").state_at(0),
    "Live.stuck": lambda one: Live(one, "").stuck(),
}
UNLIMITED = {
    "Live": lambda one: Live(one, "ab"), "do": lambda one: Live(one, "ab").do(("drop", 0)),
    "all_done": lambda one: Live(one, "ab").all_done([("drop", 0)]), "notes": lambda one: Live(one, "ab").notes(),
    "equal": lambda one: Live(one, "ab") == Live(one, "ab"), "in": lambda one: "a" in Live(one, "ab"),
    "parse_expander": lambda one: texts.parse_expander(texts.format_expander(one)),
    "keep": lambda one: Console().execute("keep x : " + texts.format_expander(one)),
    "begin": lambda one: runs.begin(one, "a"), "stands": lambda one: runs.stands(one, "a"),
    "sizes": windows.sizes, "length": lambda one: windows.length(one, "a"),
    "window": lambda one: windows.window(one, "a", 0), "path": lambda one: windows.path(one, "a", 2000),
}


def settles(size):
    """An expander whose call (0, "a") has a value of so many signs, each of which is its own outcome."""
    return "ab", "", (((("b" * 1000, "b", 1), ("b", "", 0)), ""), ((None, ("b" * (size - 1000), "", 0)), None))


def run_to_its_end(expander, text):
    """The outcome by steps, or None if it breaks off or takes more than 3,000 steps."""
    stand = runs.begin(expander, text)
    for _ in range(3000):
        try:
            stand = runs.step(expander, stand)
        except NoOutcome as error:
            last = expander[2][stand[2]][1]
            return None if error.kind == "breaks" or last is None else stand[0] + last
    return None


class AgreementTest(unittest.TestCase):
    def test_all_parts_agree_on_each_outcome(self):
        chance = random.Random(121)
        counts = {"some": 0, "none": 0}
        for _ in range(30):
            signs = chance.choice(["a", "ab", "xyz"])
            expander = drawn(chance, signs, chance.randint(1, 4), gaps=0.1, lasts=0.2)
            kept = copy.deepcopy(expander)
            forms = calls.plain(expander), least.least(expander)
            for text in all_texts(signs, 3):
                told = thrown(calls.outcome, expander, text)
                self.assertEqual(run_to_its_end(expander, text), told if isinstance(told, str) else None)
                self.assertEqual(thrown(Live(expander, text).outcome), told)
                if isinstance(told, str):
                    self.check_outcome(expander, forms, text, told)
                    counts["some"] += 1
                else:
                    self.check_none(expander, forms, text, told)
                    counts["none"] += 1
            self.assertEqual(expander, kept)
        self.assertGreater(min(counts.values()), 150)

    def check_outcome(self, expander, forms, text, word):
        for form in forms:
            self.assertEqual(calls.outcome(form, text), word)
        self.assertEqual(windows.length(expander, text), len(word))
        self.assertEqual(windows.window(expander, text, 0, many=2000), word)
        places = origins.origins(expander, text)
        self.assertEqual(len(places), len(word))
        for at, place in enumerate(places):
            inner = windows.path(expander, text, at)
            self.assertEqual(inner == [], place in (-1, len(text)))
            if inner:
                self.assertEqual(inner[0], (Live(expander, text).state_at(place), text[place]))
        self.assertEqual(origins.held(expander, text), [at for at in range(len(text)) if at not in places])
        self.assertLessEqual(len(places), growth.longest(expander, len(text))[0])
        if len(word) <= 12:
            self.assertIn(text, itertools.takewhile(lambda one: len(one) <= len(text), sources.sources(expander, word)))
            first = sources.source(expander, word)
            self.assertLessEqual((len(first), first), (len(text), text))
            self.assertIsNone(sources.no_source(expander, word))
        console = Console()
        console.execute("keep x : " + texts.format_expander(expander))
        self.assertEqual(console.execute(f"run x : {texts.format_word(text)}"), texts.format_word(word))

    def check_none(self, expander, forms, text, told):
        self.assertIs(calls.ends_always(expander), False)
        for form in forms:
            self.assertIsInstance(thrown(calls.outcome, form, text), tuple)
        for function in (origins.origins, origins.steps, origins.held, windows.length):
            self.assertEqual(thrown(function, expander, text), told)
        self.assertIs(Live(expander, text).stuck() is None, told[0] == "last")
        if told[0] != "last":
            self.assertIs(calls.shows_thread(expander, told[1]), True)


class LettersTest(unittest.TestCase):
    def test_each_letter_can_be_a_sign(self):
        for sign in LETTERS:
            double = (sign, sign, ((((sign, sign, 1),), ""), (((sign, "", 0),), sign)))
            self.assertEqual(calls.outcome(double, sign), sign * 3)
            self.assertEqual(calls.value(double, 0, sign), (sign * 2, 0))
            self.assertEqual(sources.source(double, sign * 5), sign * 2)
            self.assertEqual(growth.rate(double), (2, 1))
            self.assertEqual(growth.longest(double, 3), (7, sign * 3))
            self.assertEqual(rows.behind(double, copier(sign)), least.least(double))
            self.assertEqual(origins.origins(double, sign), [-1, 0, 0])
            self.assertEqual(windows.window(double, sign * 2, 1), sign * 4)
            self.assertEqual(texts.parse_expander(texts.format_expander(double)), double)
            live = Live(double, "")
            live.do(("put", 0, sign))
            self.assertEqual((live.outcome(), sign in live), (sign * 3, True))

    def test_four_letters_of_all(self):
        for first in range(0, 23, 3):
            signs = LETTERS[first] + LETTERS[first + 1:first + 4]
            one = copier(signs)
            self.assertEqual(calls.outcome(one, signs[::-1]), signs[::-1])
            self.assertEqual(rows.in_row([one, one, one]), one)
            self.assertEqual(list(sources.sources(one, signs)), [signs])


class LimitTest(unittest.TestCase):
    def test_each_function_that_is_limited(self):
        for name, function in LIMITED.items():
            with self.subTest(name=name):
                self.assertEqual([limit(function, settles(size)) for size in (1999, 2000, 2001)], [None, None, 2000])
                self.assertEqual(limit(function, of_size(2001)), 2000)
                far = (((None, None), ""), (tuple((word, back, 1) for word, back, _ in of_size(2001)[2][0][0]), None))
                self.assertEqual(limit(function, ("ab", "", far)), 2000)

    def test_those_that_are_not(self):
        for name, function in UNLIMITED.items():
            with self.subTest(name=name):
                self.assertIsNone(limit(function, of_size(2001)))

    def test_no_function_is_left_out(self):
        names = set()
        takers = {"need_expander", "need_pair", "behind", "_form_for", "_run_of"}
        for stem in ("calls", "least", "alike", "rows", "sources", "growth", "origins"):
            tree = ast.parse((PACKAGE / f"{stem}.py").read_text(encoding="utf-8"))
            names |= {node.name for node in tree.body if isinstance(node, ast.FunctionDef) and node.args.args
                      and not node.name.startswith("_") and node.args.args[0].arg in ("expander", "one", "row")
                      and takers & {part.id for part in ast.walk(node) if isinstance(part, ast.Name)}}
        self.assertEqual(names, {name for name in LIMITED if "." not in name})

    def test_all_other_errors_come_ahead(self):
        for long in (of_size(2001), settles(2001)):
            for error, cases in self.other_errors(long).items():
                for number, case in enumerate(cases):
                    with self.subTest(error=error, number=number):
                        self.assertRaises(error, case)

    def other_errors(self, long):
        """What raises an error other than TooMany for an expander with a too long value: error -> functions."""
        other = copier("abc")
        pairs = [alike.alike, alike.ahead, alike.apart, rows.behind, rows.change_places,
                 lambda one, two: alike.shows_alike(one, two, {}), lambda one, two: rows.in_row([one, two]),
                 lambda one, two: rows.in_row([long, one, two]), lambda one, two: rows.in_row([one, one, two, long])]
        texts_of = [calls.outcome, sources.source, sources.how_many, sources.no_source,
                    lambda one, text: sources.shows_no_source(one, text, ()),
                    lambda one, text: next(sources.sources(one, text)),
                    lambda one, text: growth.longest(one, text), origins.origins, origins.steps, origins.held,
                    lambda one, text: Live(one, "ab").state_at(text)]
        console = Console()
        console.execute("keep x : " + texts.format_expander(long))
        console.execute("keep y : " + texts.format_expander(other))
        lines = {NoCall: ["call x 2 a", "call x 0 c", "call x 0 ab"],
                 Mismatch: ["alike x y", "alike y x", "behind z x y"],
                 NoText: ["run x : c", "source x : " + "a" * 201, "origins x : cab"],
                 NoName: ["alike x z", "behind x x z", "behind x z x"]}
        told = {
            NoCall: [lambda: calls.value(long, 9, "a"), lambda: calls.thread(long, 0, "c")],
            Mismatch: [lambda f=f, row=row: f(*row) for f in pairs for row in ((long, other), (other, long))],
            NoExpander: [lambda f=f, row=row: f(*row) for f in pairs for row in ((long, None), (None, long))],
            NoText: [lambda f=f, text=text: f(long, text) for f in texts_of for text in ("c", None, 201, "a" * 201)],
            NoName: [],
        }
        for error, commands in lines.items():
            told[error].extend(lambda line=line: console.execute(line) for line in commands)
        return told

    def test_first_what_is_done_and_last_count_together(self):
        for many in (1999, 2000, 2001):
            one = ("ab", "a" * 700, (((("b" * 600, "", 0), None), "a" * (many - 1300)),))
            told = 2000 if many > 2000 else None
            for function in (calls.outcome, origins.origins, origins.steps, origins.held):
                self.assertEqual(limit(function, one, "a"), told)
            self.assertEqual(limit(Live(one, "a").outcome), told)
            self.assertEqual(windows.length(one, "a"), many)
            self.assertEqual(growth.longest(one, 1), (many, "a"))
            self.assertIsNone(limit(Live(one, "a").stuck))

    def test_sources_and_texts_are_not_limited(self):
        states = tuple(((("a" if at == 59 else "", "", (at + 1) % 60),), "" if at == 0 else None) for at in range(60))
        self.assertEqual(sources.source(("a", "", states), "a" * 200), "a" * 12000)


class ArgumentsTest(unittest.TestCase):
    def test_keywords(self):
        one = of_size(1000)
        self.assertEqual(len(runs.stands(one, "a", most=1)), 1)
        self.assertEqual(windows.window(one, "a", 0, many=1), "a")
        self.assertRaises(TypeError, runs.stands, one, "a", 1)
        self.assertRaises(TypeError, windows.window, one, "a", 0, 1)

    def test_true_is_no_integer(self):
        one = of_size(1000)
        for function in (lambda: growth.longest(one, True), lambda: windows.window(one, "a", True),
                         lambda: windows.window(one, "a", 0, many=True), lambda: windows.path(one, "a", False),
                         lambda: Live(one, "ab").state_at(True), lambda: Live(one, "ab").do(("drop", False)),
                         lambda: Live(one, "ab").do(("set", True, "a")),
                         lambda: Live(one, "ab").do(("put", True, "a"))):
            self.assertRaises(NoText, function)

    def test_functions_of_any_object_tell_it(self):
        for expander in EXPANDERS:
            for thing in ODD:
                # The paper that a word has no source is () if first is not its beginning.
                nothing = thing == () and expander[1] != ""
                self.assertIs(sources.shows_no_source(expander, "", thing), nothing)
                self.assertIs(growth.shows_rate(expander, thing), False)
                self.assertIs(Live(expander, "") == thing, False)
                self.assertIs(thing in Live(expander, ""), False)


if __name__ == "__main__":
    unittest.main()
