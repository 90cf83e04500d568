"""Point 12: lengths, parts and paths of outcomes of any length."""

import copy
import random
import unittest

from rescans.calls import outcome
from rescans.errors import NoExpander, NoOutcome, NoText
from rescans.windows import length, path, sizes, window
from plainly import drawn, outcomes, run_plain, run_values, sizes_by_rounds, texts
from samples import (
    AHEAD, DOUBLE, EXPANDERS, FOUR, LOOP, NO_EXPANDERS, ODD, STUCK, SWAP, TOWER, chain, ladder, of_size, thrown,
)

NO_INTEGERS = [one for one in ODD if isinstance(one, bool) or not isinstance(one, int)] + ["0", "", (1,), [1]]
WITH_TEXT = [length, lambda one, text: window(one, text, 0), lambda one, text: path(one, text, 0)]


def run_by_paths(expander, text):
    """The path of each sign of an outcome, by a run in which each sign in front bears the calls that it stands in."""
    signs, first, states = expander
    front = [(sign, []) for sign in reversed(text)]
    found = [[] for _ in first]
    state = 0
    while front:
        sign, around = front.pop()
        done, back, goal = states[state][0][signs.index(sign)]
        calls = around + [(state, sign)]
        found.extend(calls for _ in done)
        front.extend((one, calls) for one in reversed(back))
        state = goal
    return found + [[] for _ in states[state][1]]


def wide(many, size):
    """An expander whose "a" in each state is read so many times in the next state, ahead of a "b" that goes back.

    It does "a" and "b" by turns in the last state, and "bb" ahead of what each other state does.
    """
    states = []
    for state in range(many - 1):
        states.append((((("bb", "a" * size + "b", state + 1), ("", "", max(0, state - 1)))), "ab"))
    states.append((((("ab", "", many - 1), ("", "", max(0, many - 2)))), "ab"))
    return "ab", "ba", tuple(states)


def wide_sizes(many, size):
    """The sizes of what the calls (state, "a") of such an expander do."""
    found = [2]
    while len(found) < many:
        found.append(2 + size * found[-1])
    return found[::-1]


def wide_sign(many, size, count, at):
    """The sign of the outcome of "a" * count at a place, and its path, by the structure alone."""
    totals = wide_sizes(many, size)
    if at < 2:
        return "ba"[at], []
    at -= 2
    if at >= count * totals[0]:
        return "ab"[at - count * totals[0]], []
    calls = [(0, "a")]
    at %= totals[0]
    while len(calls) < many:
        if at < 2:
            return "b", calls
        at = (at - 2) % totals[len(calls)]
        calls.append((len(calls), "a"))
    return "ab"[at], calls


class DrawnTest(unittest.TestCase):
    def test_short_outcomes_by_runs(self):
        chance = random.Random(111)
        counts = {"signs": 0, "inner": 0}
        for _ in range(200):
            signs = chance.choice(["a", "ab", "abc"])
            expander = drawn(chance, signs, chance.randint(1, 4), gaps=chance.choice([0, 0.1]), lasts=0.1)
            kept = copy.deepcopy(expander)
            for text, word in outcomes(run_plain(expander, run_values(expander)), 3).items():
                self.assertEqual(length(expander, text), len(word))
                self.assertEqual(window(expander, text, 0, many=2000), word)
                paths = run_by_paths(expander, text)
                for at in sorted({chance.randrange(len(word)) for _ in range(3)} if word else ()):
                    self.assertEqual(path(expander, text, at), paths[at], (expander, text, at))
                    many = chance.randint(0, len(word))
                    self.assertEqual(window(expander, text, at, many=many), word[at:at + many])
                    counts["signs"] += 1
                    counts["inner"] += len(paths[at]) > 1
                self.assertEqual(window(expander, text, len(word)), "")
                self.assertRaises(NoText, path, expander, text, len(word))
            self.assertEqual(expander, kept)
        self.assertGreater(min(counts.values()), 300, counts)

    def test_sizes_by_rounds(self):
        chance = random.Random(112)
        for _ in range(300):
            expander = drawn(chance, chance.choice(["a", "ab", "abc"]), chance.randint(1, 6), gaps=0.2, most_back=3)
            right = sizes_by_rounds(expander)
            told = sizes(expander)
            self.assertEqual(list(told), [(state, sign) for state in range(len(expander[2])) for sign in expander[0]])
            self.assertEqual(told, {call: right.get(call) for call in told})

    def test_texts_without_an_outcome(self):
        chance = random.Random(113)
        count = 0
        for _ in range(150):
            signs = chance.choice(["a", "ab"])
            expander = drawn(chance, signs, chance.randint(1, 4), gaps=0.3)
            for text in texts(signs, 3):
                told = thrown(outcome, expander, text)
                if isinstance(told, tuple):
                    for function in WITH_TEXT:
                        self.assertEqual(thrown(function, expander, text), told)
                    count += 1
        self.assertGreater(count, 300)


class ExamplesTest(unittest.TestCase):
    def test_examples(self):
        self.assertEqual(sizes(TOWER), {(0, "a"): (18, 0), (0, "r"): None, (1, "a"): (6, 1), (1, "r"): (0, 0),
                                        (2, "a"): (2, 2), (2, "r"): (0, 1)})
        self.assertEqual((length(TOWER, "aa"), window(TOWER, "aa", 15, many=4)), (36, "rara"))
        self.assertEqual(path(TOWER, "aa", 20), [(0, "a"), (1, "a"), (2, "a")])
        self.assertEqual(window(TOWER, "a", 18), "")
        self.assertEqual((length(DOUBLE, ""), window(DOUBLE, "", 0)), (0, ""))

    def test_first_and_last(self):
        one = ("ab", "ab", (((("a", "b", 0), ("b", "", 0)), "ba"),))
        self.assertEqual(window(one, "a", 0), "ababba")
        self.assertEqual([path(one, "a", at) for at in range(6)],
                         [[], [], [(0, "a")], [(0, "a"), (0, "b")], [], []])
        self.assertEqual([window(one, "a", at, many=2) for at in range(7)], ["ab", "ba", "ab", "bb", "ba", "a", ""])
        self.assertEqual([path(one, "", at) for at in range(4)], [[]] * 4)
        self.assertRaises(NoText, path, one, "", 4)

    def test_windows(self):
        word = outcome(TOWER, "aaa")
        for start in range(0, 60):
            for many in (0, 1, 2, 7, 50, 54, 55, 2000):
                self.assertEqual(window(TOWER, "aaa", start, many=many), word[start:start + many])
            self.assertEqual(window(TOWER, "aaa", start), word[start:start + 50])
        self.assertEqual(window(TOWER, "aaa", 10 ** 12), "")
        self.assertEqual(window(TOWER, "aaa", 10 ** 12, many=0), "")

    def test_texts_without_an_outcome(self):
        for function in WITH_TEXT:
            self.assertEqual(thrown(function, LOOP, "bba"), ("endless", [(0, "a"), (0, "a")]))
            self.assertEqual(thrown(function, AHEAD, "aa"), ("breaks", [(1, "a")]))
            self.assertEqual(thrown(function, FOUR, "zzdb"), ("breaks", [(0, "d"), (1, "x")]))
            self.assertEqual(thrown(function, STUCK, "a"), ("last", []))

    def test_what_is_returned_is_new(self):
        told = sizes(TOWER)
        told.clear()
        self.assertEqual(len(sizes(TOWER)), 6)
        told = path(TOWER, "aa", 20)
        told.clear()
        self.assertEqual(len(path(TOWER, "aa", 20)), 3)


class LongTest(unittest.TestCase):
    """Outcomes that can not be written: what they are is told by the structure of the expanders."""

    def test_signs_and_paths(self):
        chance = random.Random(114)
        for many, size, count in [(2, 3, 2), (5, 9, 3), (30, 5, 200), (60, 1999, 200), (60, 1, 7)]:
            one = wide(many, size)
            total = 4 + count * wide_sizes(many, size)[0]
            text = "a" * count
            self.assertEqual(length(one, text), total)
            self.assertEqual([told[0] for (_, sign), told in sizes(one).items() if sign == "a"], wide_sizes(many, size))
            places = [0, 1, 2, 3, total // 2, total - 3, total - 2, total - 1]
            places.extend(chance.randrange(total) for _ in range(12))
            for at in sorted({each for each in places if 0 <= each < total}):
                sign, calls = wide_sign(many, size, count, at)
                self.assertEqual(window(one, text, at, many=1), sign)
                self.assertEqual(path(one, text, at), calls)
                right = "".join(wide_sign(many, size, count, each)[0] for each in range(at, min(at + 40, total)))
                self.assertEqual(window(one, text, at, many=40), right)
            self.assertRaises(NoText, path, one, text, total)
            self.assertEqual([window(one, text, total), window(one, text, total + 10 ** 300)], ["", ""])
            self.assertEqual(window(one, text, total - 1, many=2000), "b")

    def test_windows_against_each_other(self):
        one = wide(60, 1999)
        total = length(one, "aa")
        self.assertGreater(len(str(total)), 100)
        for start in (0, 1990, 10 ** 12, total // 2 - 1000, total - 2000, total - 1999):
            whole = window(one, "aa", start, many=2000)
            self.assertEqual(len(whole), min(2000, total - start))
            parts = [window(one, "aa", start + at, many=250) for at in range(0, 2000, 250)]
            self.assertEqual("".join(parts), whole)
            self.assertEqual(window(one, "aa", start), whole[:50])

    def test_values_of_more_than_2000_signs(self):
        for size in (1999, 2000, 2001, 3000):
            one = of_size(size)
            word = "a" * 1000 + "b" * (size - 1000)
            self.assertEqual(sizes(one), {(0, "a"): (size, 0), (0, "b"): (size - 1000, 0)})
            self.assertEqual((length(one, "aa"), length(one, "")), (2 * size, 0))
            for start in (0, 990, size - 5, size, size + 995, 2 * size - 3, 2 * size):
                self.assertEqual(window(one, "aa", start), (word * 2)[start:start + 50])
                self.assertEqual(window(one, "aa", start, many=2000), (word * 2)[start:start + 2000])
            self.assertEqual([path(one, "aa", at) for at in (0, 999, 1000, size - 1, size)], [
                [(0, "a")], [(0, "a")], [(0, "a"), (0, "b")], [(0, "a"), (0, "b")], [(0, "a")]])

    def test_calls_that_do_nothing(self):
        # Each back is full of calls that do nothing ahead of the one that does a sign, 60 states deep.
        states = [((("", "b" * 1999 + "a", at + 1), ("", "", at)), "") for at in range(59)] + [
            ((("a", "", 59), ("", "", 59)), "b")]
        one = ("ab", "", tuple(states))
        self.assertEqual((length(one, "a"), window(one, "a", 0), path(one, "a", 1)), (2, "ab", []))
        self.assertEqual(path(one, "a", 0), [(state, "a") for state in range(60)])
        self.assertEqual(length(ladder(60), "a"), 0)

    def test_paths_of_many_calls(self):
        for many in (1, 60):
            one = chain(many, ("ab", "", 0))
            calls = [(state, sign) for state in range(many) for sign in "abcd"]
            self.assertEqual(path(one, "a", 1), calls)
            self.assertEqual(window(one, "a", 0), "ab")


class ArgumentsTest(unittest.TestCase):
    def test_what_is_no_expander_and_no_text(self):
        for thing in NO_EXPANDERS:
            self.assertRaises(NoExpander, sizes, thing)
            for function in WITH_TEXT:
                self.assertRaises(NoExpander, function, thing, None)
        for thing in ODD + ["c", "abc", "A", " ", "a" * 201, ("a",), ["a"]]:
            with self.subTest(thing=thing):
                for function in WITH_TEXT:
                    self.assertRaises(NoText, function, DOUBLE, thing)
                    self.assertRaises(NoText, function, STUCK, thing)
        self.assertEqual(length(SWAP, "ab" * 100), 200)

    def test_places_and_numbers(self):
        for thing in NO_INTEGERS + [-1, -10 ** 12]:
            with self.subTest(thing=thing):
                kept = copy.deepcopy(thing)
                self.assertRaises(NoText, window, DOUBLE, "aa", thing)
                self.assertRaises(NoText, window, DOUBLE, "aa", 0, many=thing)
                self.assertRaises(NoText, window, DOUBLE, "aa", 10 ** 12, many=thing)
                self.assertRaises(NoText, path, DOUBLE, "aa", thing)
                self.assertEqual(thing, kept)
        self.assertRaises(NoText, window, DOUBLE, "aa", 0, many=2001)
        self.assertRaises(NoText, window, DOUBLE, "aa", 0, many=10 ** 12)
        self.assertEqual(window(DOUBLE, "aa", 0, many=2000), "bbbb")
        for at in (4, 5, 10 ** 12):
            self.assertRaises(NoText, path, DOUBLE, "aa", at)

    def test_the_first_of_several_errors(self):
        for text in ("a", ""):
            self.assertRaises(NoOutcome, window, STUCK, text, None, many=None)
            self.assertRaises(NoOutcome, path, STUCK, text, None)
        self.assertRaises(NoText, window, STUCK, "b", 0)

    def test_too_many_is_not_raised(self):
        loop = ((("", "a", 0), None), "")
        long = ((("a" * 1000, "b", 1), ("b" * 1001, "", 1)), None)
        one = ("ab", "", (loop, long))
        self.assertEqual(sizes(one), {(0, "a"): None, (0, "b"): None, (1, "a"): (2001, 1), (1, "b"): (1001, 1)})
        self.assertEqual((length(one, ""), window(one, "", 0)), (0, ""))
        for function in WITH_TEXT:
            self.assertEqual(thrown(function, one, "a"), ("endless", [(0, "a"), (0, "a")]))
        full = ("a", "a" * 2000, (((("a" * 2000, "", 0),), "a" * 2000),))
        self.assertEqual(length(full, "a" * 200), 404000)
        self.assertEqual(window(full, "a" * 200, 403998), "aa")
        self.assertEqual((path(full, "a", 1999), path(full, "a", 2000), path(full, "a", 4000)), ([], [(0, "a")], []))

    def test_nothing_is_changed(self):
        for expander in EXPANDERS:
            kept = copy.deepcopy(expander)
            sizes(expander)
            for function in WITH_TEXT:
                try:
                    thrown(function, expander, expander[0][0])
                except NoText:
                    # There is no sign at place 0.
                    self.assertEqual(length(expander, expander[0][0]), 0)
            self.assertEqual(expander, kept)


if __name__ == "__main__":
    unittest.main()
