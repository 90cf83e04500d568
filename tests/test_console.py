"""Point 16: a console, its commands, their answers, and what they raise."""

import random
import unittest

from rescans import alike, calls, growth, least, origins, rows, sources
from rescans.console import Console
from rescans.errors import (
    InvalidCommand, Mismatch, NoCall, NoExpander, NoMark, NoName, NoOutcome, NoText, ScanError, SyntaxProblem, TooMany,
)
from rescans.live import Live
from rescans.texts import format_expander, format_word, parse_expander, parse_word
from plainly import drawn
from samples import AHEAD, DOUBLE, FOUR, LOOP, STUCK, SWAP, TOWER, of_size

DOUBLE_TEXT = "ab .; . < bb > 0, b < . > 0, ."
COMMANDS = {
    "keep": "nT", "drop": "n", "names": "", "show": "n", "run": "nT", "call": "nNs", "least": "n", "alike": "nn",
    "behind": "nnn", "settled": "n", "source": "nT", "rate": "n", "origins": "nT", "live": "nT", "set": "Ns",
    "put": "Ns", "cut": "N", "undo": "", "redo": "", "text": "", "outcome": "",
}
ABOUT_LIVE = ["set 0 a", "put 0 a", "cut 0", "undo", "redo", "text", "outcome"]


def console_with(**expanders):
    console = Console()
    for name, expander in expanders.items():
        assert console.execute(f"keep {name} : {format_expander(expander)}") == "ok"
    return console


def line_of(command, kinds, parts):
    """A line of a command with these parts, of which that for T is the text."""
    words = [command] + [parts[kind] for kind in kinds if kind != "T"]
    return " ".join(words) + (" : " + parts["T"] if "T" in kinds else "")


def answer(function, *arguments):
    """What a function returns, or its error's class and fields."""
    try:
        return function(*arguments)
    except ScanError as error:
        return error.__class__, {name: told for name, told in vars(error).items()}


class ConsoleTest(unittest.TestCase):
    def test_examples(self):
        console = Console()
        lines = ["keep x : ab .; . < bb > 0, b < . > 0, .", "run x : aba", "call x 0 a", "least x", "source x : bbb",
                 "rate x", "settled x", "origins x : ba", "keep y : ab .; b < . > 0, a < . > 0, .", "alike x y",
                 "behind z x y", "names", "live y : ab", "put 0 b", "text", "outcome", "undo", "text"]
        self.assertEqual([console.execute(line) for line in lines], [
            "ok", "bbbbb", "bb 0", "ab .; bb < . > 0, b < . > 0, .", "ab", "2/1", "yes", "0 1 1", "ok", "no : a", "ok",
            "x y z", "ok", "ok", "bab", "aba", "ok", "ab"])
        self.assertEqual(console.execute("show z"), "ab .; aa < . > 0, a < . > 0, .")

    def test_answers(self):
        console = console_with(double=DOUBLE, swap=SWAP, ahead=AHEAD, stuck=STUCK, loop=LOOP, tower=TOWER)
        for line, told in [
                ("show double", DOUBLE_TEXT), ("show stuck", "a a; a < . > 0, !"), ("run double : .", "."),
                ("run ahead :  ab ", "abb"), ("run swap :  \tba", "ab"), ("call ahead 1 b", "ab 2"),
                ("call ahead 0 a", ". 1"), ("call tower 1 r", ". 0"), ("least stuck", "a .; !, !"),
                ("least ahead", "ab ab; . < . > 1, !, !; !, . < . > 2, !; a < . > 2, !, b"), ("alike swap swap", "yes"),
                ("alike double loop", "no : a"), ("alike ahead double", "no : ."), ("settled swap", "no"),
                ("settled double", "yes"), ("source double : .", "."), ("source double : ba", "none"),
                ("source stuck : .", "none"), ("rate stuck", "none"), ("rate tower", "18/1"),
                ("origins double : .", "none"), ("origins ahead : ab", "1 1 2"),
                ("names", "ahead double loop stuck swap tower"),
                ("rate double", "2/1")]:
            self.assertEqual(console.execute(line), told, line)

    def test_rates_and_origins(self):
        half = ("a", "aa", (((("", "", 1),), ""), ((("a", "", 0),), "a")))
        none = ("a", "a", (((("", "", 0),), ""),))
        console = console_with(half=half, none=none)
        self.assertEqual([console.execute(line) for line in ("rate half", "rate none", "origins half : aaa")],
                         ["1/2", "0/1", "-1 -1 1 3"])

    def test_names(self):
        console = Console()
        self.assertEqual(console.execute("names"), "none")
        for name in ("b", "names", "abcdefgh", "a", "zz"):
            console.execute(f"keep {name} : {DOUBLE_TEXT}")
        self.assertEqual(console.execute("names"), "a abcdefgh b names zz")
        self.assertEqual(console.execute("drop b"), "ok")
        self.assertEqual(console.execute("names"), "a abcdefgh names zz")
        self.assertRaises(NoName, console.execute, "drop b")
        self.assertRaises(NoName, console.execute, "show b")
        for name in ("a", "abcdefgh", "names", "zz"):
            console.execute(f"drop {name}")
        self.assertEqual(console.execute("names"), "none")

    def test_keep_in_the_place_of_another_one(self):
        console = console_with(x=DOUBLE)
        console.execute("live x : ab")
        self.assertEqual(console.execute(f"keep x : {format_expander(SWAP)}"), "ok")
        self.assertEqual(console.execute("show x"), format_expander(SWAP))
        self.assertEqual(console.execute("names"), "x")
        # The live text keeps its expander, also when the name has none any more.
        self.assertEqual(console.execute("outcome"), "bbb")
        console.execute("drop x")
        self.assertEqual((console.execute("outcome"), console.execute("text")), ("bbb", "ab"))

    def test_behind_keeps_under_any_name(self):
        console = console_with(x=DOUBLE, y=SWAP)
        for name in ("z", "x", "y"):
            console.execute(f"behind {name} x y")
        self.assertEqual(console.execute("show z"), format_expander(rows.behind(DOUBLE, SWAP)))
        both = rows.behind(DOUBLE, SWAP)
        self.assertEqual(console.execute("show x"), format_expander(both))
        self.assertEqual(console.execute("show y"), format_expander(rows.behind(both, SWAP)))

    def test_the_same_line_several_times(self):
        console = console_with(x=DOUBLE)
        for _ in range(3):
            self.assertEqual(console.execute("keep y : a .; !, !"), "ok")
            self.assertEqual(console.execute("live x : a"), "ok")
            self.assertEqual([console.execute("put 0 b") for _ in range(3)], ["ok"] * 3)
            self.assertEqual(console.execute("text"), "bbba")
            self.assertEqual(console.execute("run x : a"), "bb")

    def test_two_consoles_are_independent(self):
        one, other = console_with(x=DOUBLE), console_with(x=SWAP)
        one.execute("live x : ab")
        self.assertRaises(NoMark, other.execute, "text")
        other.execute("live x : ab")
        one.execute("cut 0")
        one.execute("drop x")
        self.assertEqual([other.execute(line) for line in ("text", "outcome", "names")], ["ab", "ba", "x"])


class LiveTest(unittest.TestCase):
    def test_edits(self):
        console = console_with(x=SWAP)
        console.execute("live x : ab")
        for line, text in [("put 2 a", "aba"), ("set 0 b", "bba"), ("cut 1", "ba"), ("undo", "bba"), ("undo", "aba"),
                           ("redo", "bba"), ("redo", "ba"), ("cut 0", "a"), ("cut 0", "."), ("put 0 b", "b")]:
            self.assertEqual(console.execute(line), "ok")
            self.assertEqual(console.execute("text"), text)
            self.assertEqual(console.execute("outcome"), format_word(calls.outcome(SWAP, parse_word(text))))
        self.assertRaises(NoMark, console.execute, "redo")
        console.execute("live x : .")
        self.assertEqual((console.execute("text"), console.execute("outcome")), (".", "."))
        self.assertRaises(NoMark, console.execute, "undo")
        self.assertRaises(NoMark, console.execute, "redo")

    def test_refused_edits(self):
        console = console_with(x=SWAP)
        console.execute("live x : ab")
        console.execute("put 0 a")
        console.execute("undo")
        for line in ("cut 2", "set 2 a", "put 3 a", "set 0 c", "put 0 ab", "put 1000000 a", "set 0 :", "set 0 0",
                     "cut 999999", "put 0 \t", "set 9 \n"):
            self.assertRaises(NoText, console.execute, line)
            self.assertEqual(console.execute("text"), "ab")
        console.execute("redo")
        self.assertEqual(console.execute("text"), "aab")

    def test_texts_of_200_signs(self):
        console = console_with(x=SWAP)
        self.assertRaises(NoText, console.execute, "live x : " + "a" * 201)
        self.assertRaises(NoMark, console.execute, "text")
        console.execute("live x : " + "a" * 200)
        self.assertRaises(NoText, console.execute, "put 0 a")
        console.execute("cut 199")
        console.execute("put 199 b")
        self.assertEqual(console.execute("outcome"), "b" * 199 + "a")

    def test_a_live_text_that_is_refused_leaves_the_old_one(self):
        console = console_with(x=SWAP, y=STUCK)
        console.execute("live x : ab")
        console.execute("cut 0")
        for line, error in [("live z : a", NoName), ("live y : b", NoText), ("live y : a b", SyntaxProblem),
                            ("live y :", InvalidCommand)]:
            self.assertRaises(error, console.execute, line)
            self.assertEqual(console.execute("text"), "b")
        console.execute("undo")
        self.assertEqual(console.execute("text"), "ab")

    def test_drawn_edits(self):
        chance = random.Random(101)
        for _ in range(20):
            expander = drawn(chance, "ab", 3, gaps=0.1, lasts=0.1)
            console, live = console_with(x=expander), Live(expander, "ab")
            console.execute("live x : ab")
            for _ in range(30):
                place, sign = chance.randint(0, 5), chance.choice("aabbc")
                word = chance.choice(["set", "put", "put", "cut", "undo", "redo"])
                if word in ("undo", "redo"):
                    line, done = word, answer(getattr(live, word))
                elif word == "cut":
                    line, done = f"cut {place}", answer(live.do, ("drop", place))
                else:
                    line, done = f"{word} {place} {sign}", answer(live.do, (word, place, sign))
                self.assertEqual(answer(console.execute, line), "ok" if done is None else done)
                self.assertEqual(console.execute("text"), format_word(live.text))
                told = answer(live.outcome)
                right = format_word(told) if isinstance(told, str) else told
                self.assertEqual(answer(console.execute, "outcome"), right)


class FunctionsTest(unittest.TestCase):
    def test_lines_against_the_functions(self):
        chance = random.Random(102)
        found = {}
        for _ in range(60):
            signs = chance.choice(["a", "ab", "ab"])
            one, other = [drawn(chance, signs, chance.randint(1, 3), gaps=0.15, lasts=0.2) for _ in range(2)]
            console = console_with(one=one, other=other)
            word = "".join(chance.choice(signs + "a") for _ in range(chance.randint(0, 4)))
            told = format_word(word)
            state, sign = chance.randint(0, 3), chance.choice("aab")
            texts = {
                f"run one : {told}": lambda: format_word(calls.outcome(one, word)),
                f"call one {state} {sign}": lambda: "{} {}".format(
                    *(format_word(part) if part == "" else part for part in calls.value(one, state, sign))),
                "least one": lambda: format_expander(least.least(one)),
                "alike one other": lambda: "yes" if alike.alike(one, other) else
                                   "no : " + format_word(alike.apart(one, other)),
                "settled one": lambda: "yes" if rows.settled(one) else "no",
                f"source one : {told}": lambda: "none" if sources.source(one, word) is None else
                                        format_word(sources.source(one, word)),
                "rate one": lambda: "none" if growth.rate(one) is None else "{}/{}".format(*growth.rate(one)),
                f"origins one : {told}": lambda: " ".join(map(str, origins.origins(one, word))) or "none",
                "show one": lambda: format_expander(one),
            }
            for line, function in texts.items():
                right = answer(function)
                self.assertEqual(answer(console.execute, line), right, line)
                found[line.split()[0], isinstance(right, str)] = True
            both = answer(rows.behind, one, other)
            refused = isinstance(both[0], type)
            self.assertEqual(answer(console.execute, "behind new one other"), both if refused else "ok")
            if not refused:
                self.assertEqual(parse_expander(console.execute("show new")), both)
        for command in ("run", "call", "origins"):
            self.assertIn((command, True), found)
            self.assertIn((command, False), found)


class InvalidTest(unittest.TestCase):
    def setUp(self):
        self.console = console_with(x=DOUBLE, y=SWAP)
        self.console.execute("live x : ab")
        self.console.execute("put 0 a")
        self.parts = {"n": "x", "N": "0", "s": "a", "T": "ab"}

    def check(self, line):
        with self.subTest(line=line):
            self.assertRaises(InvalidCommand, self.console.execute, line)
            self.assertEqual([self.console.execute(each) for each in ("names", "text", "show x", "show y")],
                             ["x y", "aab", DOUBLE_TEXT, format_expander(SWAP)])

    def test_words_and_blanks(self):
        for command, kinds in COMMANDS.items():
            line = line_of(command, kinds, self.parts)
            head, mark, text = line.partition(" : ")
            for bent in [" " + line, head + " " + mark + text, head + " a" + mark + text, head.upper() + mark + text,
                         head.replace(" ", "  ") + "  " + mark + text]:
                self.check(bent)
            if not kinds.endswith("s"):
                # A sign can be any word.
                self.check(head + "\t" + mark + text)
            if "T" in kinds:
                for bent in [head, head + " :", head + " " + text, head + ": " + text, head + " :" + text]:
                    self.check(bent)
            else:
                for bent in [line + " : ab", line + " : ", line + " :", line + " ", line + " : : "]:
                    self.check(bent)
            if kinds not in ("", "T"):
                self.check(head.rpartition(" ")[0] + mark + text)
                self.check(head.replace(" ", "\t") + mark + text)
                self.check(head.replace(" ", "\n") + mark + text)
        for line in ("", " ", " : ", " : a", "a", "keep", ":", "name", "names x", "x", "quit", "\n", "keepx : a",
                     "Names"):
            self.check(line)

    def test_empty_words(self):
        for command, kinds in COMMANDS.items():
            words = [command] + [self.parts[kind] for kind in kinds.replace("T", "")]
            for place in range(len(words)):
                bent = words[:place] + [""] + words[place + 1:]
                self.check(" ".join(bent) + (" : ab" if "T" in kinds else ""))

    def test_names(self):
        for name in ("abcdefghi", "X", "x1", "1", "x-y", "x.", ".", ":", "x_", "\tx", "x\n", "aB", "~"):
            for command, kinds in COMMANDS.items():
                for place, kind in enumerate(kinds):
                    if kind == "n":
                        words = [self.parts[one] for one in kinds.replace("T", "")]
                        words[place] = name
                        self.check(" ".join([command] + words) + (" : ab" if "T" in kinds else ""))

    def test_numbers(self):
        for number in ("1000001", "00", "01", "-1", "+1", "1.0", "1e3", "a", "0x1", "9" * 8, "9" * 4999, "0" * 4990,
                       "-0", "10000000", "\t1", "1\n", "1_0", "1,0", ".", "!", ":"):
            for command, kinds in COMMANDS.items():
                if "N" in kinds:
                    self.check(line_of(command, kinds, dict(self.parts, N=number)))

    def test_the_first_name_need_not_be_kept(self):
        for name in ("a", "abcdefgh", "keep", "zzzzzzzz"):
            self.assertEqual(self.console.execute(f"behind {name} x y"), "ok")
            self.assertEqual(self.console.execute(f"keep {name} : a .; !, !"), "ok")


class ErrorsTest(unittest.TestCase):
    def test_no_live_text(self):
        console = console_with(x=DOUBLE)
        for line in ABOUT_LIVE:
            self.assertRaises(NoMark, console.execute, line)
            self.assertRaises(InvalidCommand, console.execute, line + " ")
        self.assertRaises(NoMark, console.execute, "set 999999 :")
        self.assertRaises(InvalidCommand, console.execute, "set 1000001 a")

    def test_unknown_names(self):
        console = console_with(x=DOUBLE, y=SWAP)
        for line in ("drop z", "show z", "run z : ab", "run z : A", "call z 99 q", "least z", "alike z x", "alike x z",
                     "alike z z", "behind x y z", "behind x z y", "behind z z z", "settled z", "source z : 7", "rate z",
                     "origins z : ab", "live z : ", "run z : ", "origins z : : "):
            self.assertRaises(NoName, console.execute, line)
        self.assertEqual(console.execute("names"), "x y")

    def test_texts(self):
        console = console_with(x=DOUBLE)
        for line, column in [("run x : ", 1), ("run x : A", 1), ("run x : a b", 3), ("source x : ab,", 3),
                             ("live x :  7", 2), ("origins x : 00", 1), ("run x : : a", 1), ("run x : a : b", 3),
                             ("keep y : ", 1), ("keep y : ab .; : a", 7), ("keep y : a : b", 3),
                             ("keep y : ab .; !, !", 11), ("keep x : ab .; . < bb > 0, b < . > 0, . :", 32),
                             ("run x :  ", 2)]:
            with self.subTest(line=line):
                with self.assertRaises(SyntaxProblem) as caught:
                    console.execute(line)
                self.assertEqual((caught.exception.line, caught.exception.column), (1, column))
        self.assertRaises(NoExpander, console.execute, "keep y : ba .; !, !, !")
        self.assertRaises(NoExpander, console.execute, "keep x : a .; . < . > 1, .")
        self.assertEqual((console.execute("names"), console.execute("show x")), ("x", DOUBLE_TEXT))

    def test_what_the_functions_raise(self):
        long = of_size(2001)
        console = console_with(x=DOUBLE, stuck=STUCK, loop=LOOP, long=long, four=FOUR)
        for line, error in [
                ("run x : abc", NoText), ("run x : " + "a" * 201, NoText), ("run loop : a", NoOutcome),
                ("run stuck : .", NoOutcome), ("call x 1 a", NoCall), ("call x 0 c", NoCall), ("call x 0 ab", NoCall),
                ("call x 0 :", NoCall), ("call loop 0 a", NoOutcome), ("call x 1000000 a", NoCall),
                ("alike x stuck", Mismatch), ("behind y x stuck", Mismatch), ("behind y four x", Mismatch),
                ("source x : c", NoText), ("source x : " + "b" * 201, NoText), ("origins x : c", NoText),
                ("origins loop : a", NoOutcome), ("live x : c", NoText), ("run long : .", TooMany),
                ("call long 0 b", TooMany), ("least long", TooMany), ("alike x long", TooMany),
                ("behind y x long", TooMany), ("settled long", TooMany), ("source long : .", TooMany),
                ("rate long", TooMany), ("origins long : .", TooMany)]:
            with self.subTest(line=line):
                self.assertRaises(error, console.execute, line)
        self.assertEqual(console.execute("names"), "four long loop stuck x")
        self.assertEqual(console.execute("show long"), format_expander(long))
        console.execute("live long : ab")
        console.execute("put 0 a")
        self.assertEqual(console.execute("text"), "aab")
        self.assertRaises(TooMany, console.execute, "outcome")
        console.execute("live loop : a")
        self.assertEqual(answer(console.execute, "outcome"), (NoOutcome, {"kind": "endless", "thread": [(0, "a")] * 2}))

    def test_what_is_refused_changes_nothing(self):
        console = console_with(x=DOUBLE, stuck=STUCK)
        for line in ("keep x : ab .; !", "keep x : ba .; !, !, !", "behind x x stuck", "behind x x z", "drop z",
                     "keep X : a", "behind stuck stuck x"):
            self.assertRaises(ScanError, console.execute, line)
            self.assertEqual([console.execute(one) for one in ("names", "show x", "show stuck")],
                             ["stuck x", DOUBLE_TEXT, "a a; a < . > 0, !"])

    def test_each_letter_stands_in_a_name(self):
        for sign in "abcdefghijklmnopqrstuvwxyz":
            console = Console()
            console.execute(f"keep {sign} : {sign} {sign}; {sign} < . > 0, .")
            self.assertEqual(console.execute(f"run {sign} : {sign}"), sign * 2)
            console.execute(f"live {sign} : .")
            console.execute(f"put 0 {sign}")
            self.assertEqual(console.execute("outcome"), sign * 2)


if __name__ == "__main__":
    unittest.main()
