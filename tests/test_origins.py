"""Point 12: from where the signs of an outcome come, how many steps a run has, and places that are held."""

import copy
import random
import unittest

from rescans.errors import NoExpander, NoText
from rescans.origins import held, origins, steps
from plainly import drawn, run_values, texts
from samples import (
    AHEAD, DOUBLE, EXPANDERS, FOUR, LOOP, NO_EXPANDERS, ODD, STUCK, SWAP, TOWER, limit, of_size, thrown,
)

DROP = ("ab", "", (((("", "", 0), ("b", "", 0)), "a"),))
ALL = [origins, steps, held]


def run_by_places(expander, text, most):
    """The origins and the number of steps by a run in which each sign bears its place; None if it has no outcome."""
    signs, first, states = expander
    front = [(sign, place) for place, sign in enumerate(text)][::-1]
    found = [-1] * len(first)
    state, count = 0, 0
    while front:
        sign, place = front.pop()
        move = states[state][0][signs.index(sign)]
        count += 1
        if move is None or count > most:
            return None
        found.extend(place for _ in move[0])
        front.extend((one, place) for one in reversed(move[1]))
        state = move[2]
    last = states[state][1]
    return None if last is None else (found + [len(text) for _ in last], count)


def of_steps(many):
    """An expander that takes so many steps for each "a", and does a sign in each hundredth one or so."""
    ten, one = divmod(many - 1, 101)
    return ("abc", "", (((("", "b" * ten + "c" * one, 0), ("a", "c" * 100, 0), ("", "", 0)), ""),))


class DrawnTest(unittest.TestCase):
    def test_drawn_expanders_by_runs(self):
        chance = random.Random(71)
        counts = {"some": 0, "none": 0, "held": 0}
        for _ in range(150):
            signs = chance.choice(["a", "ab", "abc"])
            expander = drawn(chance, signs, chance.randint(1, 4), gaps=chance.choice([0, 0.1]), lasts=0.1)
            kept = copy.deepcopy(expander)
            without = [call for call, told in run_values(expander).items() if not isinstance(told, tuple)]
            for text in texts(signs, 3):
                told = run_by_places(expander, text, 2000)
                if told is None:
                    self.assertIsInstance(thrown(origins, expander, text)[1], list)
                    self.assertIn(thrown(steps, expander, text)[0], ["breaks", "endless", "last"])
                    self.assertEqual(thrown(held, expander, text), thrown(origins, expander, text))
                    counts["none"] += 1
                    continue
                self.assertEqual(origins(expander, text), told[0], (expander, text))
                self.assertEqual(steps(expander, text), told[1], (expander, text))
                right = [place for place in range(len(text)) if place not in told[0]]
                self.assertEqual(held(expander, text), right)
                counts["some"] += 1
                counts["held"] += right != [] and without != []
            self.assertEqual(expander, kept)
        self.assertGreater(min(counts.values()), 100, counts)


class OriginsTest(unittest.TestCase):
    def test_examples(self):
        self.assertEqual(origins(DOUBLE, "ba"), [0, 1, 1])
        self.assertEqual(steps(DOUBLE, "ba"), 4)
        self.assertEqual(origins(DROP, "aba"), [1, 3])
        self.assertEqual(held(DROP, "aba"), [0, 2])
        self.assertEqual((origins(DOUBLE, ""), steps(DOUBLE, ""), held(DOUBLE, "")), ([], 0, []))
        self.assertEqual((origins(DROP, ""), steps(DROP, ""), held(DROP, "")), ([0], 0, []))
        self.assertEqual((origins(TOWER, "aa"), steps(TOWER, "aa")), ([0] * 18 + [1] * 18, 34))

    def test_first_and_last(self):
        one = ("ab", "ab", (((("", "", 0), ("b", "a", 0)), "ba"),))
        self.assertEqual(origins(one, "abab"), [-1, -1, 1, 3, 4, 4])
        self.assertEqual((steps(one, "abab"), held(one, "abab")), (6, [0, 2]))
        self.assertEqual(origins(one, ""), [-1, -1, 0, 0])

    def test_a_sign_that_is_put_back_twice(self):
        # "c" is put back by "b", which is put back by "a": all have the origin of "a".
        one = ("abc", "", (((("", "bc", 0), ("b", "cc", 0), ("c", "", 0)), ""),))
        self.assertEqual(origins(one, "ca"), [0, 1, 1, 1, 1])
        self.assertEqual(steps(one, "ca"), 6)

    def test_texts_without_an_outcome(self):
        for function in ALL:
            self.assertEqual(thrown(function, LOOP, "ba"), ("endless", [(0, "a"), (0, "a")]))
            self.assertEqual(thrown(function, AHEAD, "aa"), ("breaks", [(1, "a")]))
            self.assertEqual(thrown(function, FOUR, "zzdb"), ("breaks", [(0, "d"), (1, "x")]))
            self.assertEqual(thrown(function, STUCK, "a"), ("last", []))
            self.assertEqual(thrown(function, AHEAD, "a"), ("last", []))

    def test_texts_of_200_signs(self):
        self.assertEqual(origins(SWAP, "ab" * 100), list(range(200)))
        self.assertEqual(steps(DOUBLE, "a" * 200), 600)
        self.assertEqual(held(DROP, "a" * 200), list(range(200)))

    def test_what_is_returned_is_new(self):
        for function in (origins, held):
            told = function(DROP, "aba")
            kept = list(told)
            told.clear()
            self.assertEqual(function(DROP, "aba"), kept)


class StepsTest(unittest.TestCase):
    def test_runs_of_10000_and_10001_steps(self):
        for many in (9999, 10000, 10001):
            one = of_steps(many)
            found = run_by_places(one, "a", 20000)
            self.assertEqual(found[1], many)
            if many <= 10000:
                self.assertEqual([function(one, "a") for function in ALL], [found[0], many, []])
            else:
                self.assertEqual([limit(function, one, "a") for function in ALL], [10000] * 3)

    def test_many_calls(self):
        one = of_steps(50)
        self.assertEqual([limit(function, one, "a" * 200) for function in ALL], [None] * 3)
        self.assertEqual(steps(one, "a" * 200), 10000)
        two = of_steps(51)
        self.assertEqual([limit(function, two, "a" * 200) for function in ALL], [10000] * 3)
        self.assertEqual(steps(two, "a" * 196), 9996)

    def test_very_many_steps(self):
        # Each state's "a" is read three times in the next state, 3 ** 59 times in the last one.
        states = [((("", "aaar", at + 1), ("", "", max(0, at - 1))), "") for at in range(59)]
        states.append(((("", "", 59), ("", "", 58)), ""))
        one = ("ar", "", tuple(states))
        self.assertEqual([limit(function, one, "a") for function in ALL], [10000] * 3)
        self.assertEqual([thrown(function, one, "") for function in ALL], [[], 0, []])

    def test_places_among_the_errors(self):
        # More than 10,000 steps, and no outcome; then a long outcome, too.
        breaks = of_steps(10001)
        breaks = ("abc", "", (breaks[2][0][:1] + (None,),))
        for function in ALL:
            self.assertEqual(thrown(function, breaks, "a"), ("last", []))
        long = ("abc", "a" * 2000, of_steps(10001)[2])
        for function in ALL:
            self.assertEqual(limit(function, long, "a"), 2000)
            self.assertEqual(limit(function, long, "aa"), 2000)
        ends = (((("", "b", 0), ("", "b", 0), None), None),)
        for function in ALL:
            self.assertEqual(thrown(function, ("abc", "", ends), "cab"), ("breaks", [(0, "c")]))
            self.assertEqual(thrown(function, ("abc", "", ends), "a"), ("endless", [(0, "a"), (0, "b"), (0, "b")]))


class LimitTest(unittest.TestCase):
    def test_outcomes(self):
        for many in (1999, 2000, 2001):
            one = ("a", "a" * 500, (((("a" * 10, "", 0),), "a" * (many - 1500)),))
            if many <= 2000:
                self.assertEqual(origins(one, "a" * 100), [-1] * 500 + [at // 10 for at in range(1000)]
                                 + [100] * (many - 1500))
                self.assertEqual((steps(one, "a" * 100), held(one, "a" * 100)), (100, []))
            else:
                self.assertEqual([limit(function, one, "a" * 100) for function in ALL], [2000] * 3)

    def test_calls_with_long_values(self):
        for function in ALL:
            self.assertEqual(limit(function, of_size(2001), ""), 2000)
            self.assertIsNone(limit(function, of_size(2000), "a"))
            # Ahead of a text that has no outcome.
            self.assertEqual(limit(function, of_size(2001, last=None), ""), 2000)


class ArgumentsTest(unittest.TestCase):
    def test_what_is_no_expander_and_no_text(self):
        for function in ALL:
            for thing in NO_EXPANDERS:
                self.assertRaises(NoExpander, function, thing, "")
                self.assertRaises(NoExpander, function, thing, None)
            for thing in ODD + ["c", "abc", "A", " ", "a" * 201, ("a",), ["a"]]:
                with self.subTest(thing=thing):
                    self.assertRaises(NoText, function, DOUBLE, thing)
                    self.assertRaises(NoText, function, of_size(2001), thing)
                    self.assertRaises(NoText, function, STUCK, thing)

    def test_nothing_is_changed(self):
        for expander in EXPANDERS:
            kept = copy.deepcopy(expander)
            for function in ALL:
                thrown(function, expander, expander[0])
            self.assertEqual(expander, kept)


if __name__ == "__main__":
    unittest.main()
