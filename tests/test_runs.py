"""Point 4: runs, sign by sign."""

import copy
import random
import unittest

from rescans.errors import Mismatch, NoExpander, NoOutcome, NoText
from rescans.runs import begin, stands, step
from plainly import drawn, texts
from samples import AHEAD, DOUBLE, EXPANDERS, FOUR, LOOP, ODD, STUCK, SWAP, TOWER, replaced


def plain_stands(expander, text, most):
    """The stands of a run by the words of point 4."""
    signs, first, states = expander
    done, front, state = first, text, 0
    found = []
    while len(found) < most:
        found.append((done, front, state))
        if not front:
            break
        move = states[state][0][signs.index(front[0])]
        if move is None:
            break
        done, front, state = done + move[0], move[1] + front[1:], move[2]
    return found


def thrown(function, *arguments):
    """What kind and thread NoOutcome has."""
    try:
        function(*arguments)
    except NoOutcome as error:
        return error.kind, error.thread
    return None


class BeginTest(unittest.TestCase):
    def test_stands(self):
        self.assertEqual(begin(DOUBLE, "ab"), ("", "ab", 0))
        self.assertEqual(begin(STUCK, ""), ("a", "", 0))
        self.assertEqual(begin(FOUR, "zxb"), ("zx", "zxb", 0))

    def test_what_is_no_text(self):
        for thing in ODD + ["c", "abc", "A", " ", "a" * 201, "a" * 5000, ("a",), ["a"]]:
            with self.subTest(thing=thing):
                self.assertRaises(NoText, begin, DOUBLE, thing)
                self.assertRaises(NoText, stands, DOUBLE, thing)
        self.assertEqual(begin(DOUBLE, "ab" * 100), ("", "ab" * 100, 0))
        self.assertRaises(NoText, begin, STUCK, "b")

    def test_no_expander_comes_first(self):
        for thing in ODD + [list(DOUBLE), DOUBLE + ("",), replaced(DOUBLE, (2, 0, 0, 0, 2), True)]:
            with self.subTest(thing=thing):
                self.assertRaises(NoExpander, begin, thing, None)
                self.assertRaises(NoExpander, begin, thing, "a")
                self.assertRaises(NoExpander, stands, thing, None)
                self.assertRaises(NoExpander, step, thing, None)


class StepTest(unittest.TestCase):
    def test_steps(self):
        self.assertEqual(step(DOUBLE, ("", "ab", 0)), ("", "bbb", 0))
        self.assertEqual(step(DOUBLE, ("a", "b", 0)), ("ab", "", 0))
        self.assertEqual(step(AHEAD, ("bb", "b", 1)), ("bbab", "", 2))
        self.assertEqual(step(AHEAD, ("bb", "aba", 2)), ("bba", "ba", 2))

    def test_a_stand_need_not_be_one_of_a_run(self):
        self.assertEqual(step(TOWER, ("rrr", "ra", 2)), ("rrr", "a", 1))
        self.assertEqual(step(SWAP, ("ab" * 1500, "a" * 5000, 0)), ("ab" * 1500 + "b", "a" * 4999, 0))
        self.assertEqual(step(SWAP, ("", "a" * 201, 0)), ("b", "a" * 200, 0))

    def test_no_limit_for_what_a_step_makes(self):
        long = ("a", "", ((((("a" * 2000), "a" * 2000, 0),), ""),))
        self.assertEqual(step(long, ("a" * 2000, "a" * 2000, 0)), ("a" * 4000, "a" * 3999, 0))

    def test_the_end(self):
        for expander in EXPANDERS:
            for state in range(len(expander[2])):
                self.assertEqual(thrown(step, expander, ("", "", state)), ("ends", []))
                self.assertEqual(thrown(step, expander, (expander[0], "", state)), ("ends", []))

    def test_where_a_run_breaks_off(self):
        self.assertEqual(thrown(step, AHEAD, ("", "ba", 0)), ("breaks", [(0, "b")]))
        self.assertEqual(thrown(step, AHEAD, ("ab", "a", 3)), ("breaks", [(3, "a")]))
        self.assertEqual(thrown(step, FOUR, ("", "xz", 0)), ("breaks", [(0, "x")]))

    def test_what_is_no_stand(self):
        right = ("ab", "ba", 0)
        things = ODD + [
            list(right), ("ab", "ba"), right + (0,), ("ab", "ba", True), ("ab", "ba", False), ("ab", "ba", 1),
            ("ab", "ba", -1), ("ab", "ba", None), ("ab", "ba", "0"), ("ac", "ba", 0), ("ab", "bc", 0), ("A", "", 0),
            ("ab", " ", 0), ("a\n", "", 0), (None, "ba", 0), ("ab", None, 0), (None, None, None), ["ab", "ba", 0],
            {"ab": 1, "ba": 2, 0: 3}, (["a"], "ba", 0), ("ab", ("b",), 0), "ab0", "abc", (0, "ab", "ba"),
            ("ab", "ba", [0]), ("", "", 60), ("", "", 10 ** 12), ((right,),), [right],
        ]
        for thing in things:
            with self.subTest(thing=thing):
                kept = copy.deepcopy(thing)
                self.assertRaises(Mismatch, step, DOUBLE, thing)
                self.assertEqual(thing, kept)
        for place in range(3):
            for thing in ODD:
                if place < 2 or thing != 0 or isinstance(thing, bool):
                    self.assertRaises(Mismatch, step, DOUBLE, replaced(right, (place,), thing))
        self.assertRaises(Mismatch, step, AHEAD, ("", "a", 4))
        self.assertEqual(step(AHEAD, ("", "a", 2)), ("a", "", 2))

    def test_a_wrong_stand_comes_ahead_of_the_end(self):
        self.assertRaises(Mismatch, step, DOUBLE, ("", "", True))
        self.assertRaises(Mismatch, step, DOUBLE, ("c", "", 0))


class StandsTest(unittest.TestCase):
    def test_the_end(self):
        self.assertEqual(stands(DOUBLE, "a"), [("", "a", 0), ("", "bb", 0), ("b", "b", 0), ("bb", "", 0)])
        self.assertEqual(stands(DOUBLE, ""), [("", "", 0)])
        self.assertEqual(stands(STUCK, "a"), [("a", "a", 0), ("aa", "", 0)])

    def test_where_a_run_breaks_off(self):
        self.assertEqual(stands(AHEAD, "abb"), [("", "abb", 0), ("", "bb", 1), ("ab", "b", 2)])
        self.assertEqual(stands(AHEAD, "b"), [("", "b", 0)])

    def test_how_many(self):
        self.assertEqual(len(stands(LOOP, "a")), 100)
        for many in (1, 2, 3, 4, 5, 99, 100, 101, 1000):
            self.assertEqual(stands(LOOP, "ab", most=many), plain_stands(LOOP, "ab", many))
            self.assertEqual(len(stands(LOOP, "ab", most=many)), many)
            self.assertEqual(stands(DOUBLE, "a", most=many), stands(DOUBLE, "a")[:many])
        self.assertEqual(len(stands(SWAP, "a" * 200)), 100)
        self.assertEqual(len(stands(SWAP, "a" * 200, most=1000)), 201)
        self.assertEqual(len(stands(SWAP, "a" * 99)), 100)
        self.assertEqual(stands(SWAP, "a" * 99)[-1], ("b" * 99, "", 0))

    def test_a_front_that_grows(self):
        grows = ("a", "", (((("a" * 2000, "a" * 2000, 0),), ""),))
        told = stands(grows, "a", most=20)
        self.assertEqual([(len(done), len(front)) for done, front, _ in told],
                         [(2000 * at, 1999 * at + 1) for at in range(20)])

    def test_drawn_expanders(self):
        chance = random.Random(4)
        for _ in range(300):
            expander = drawn(chance, chance.choice(["a", "ab", "abc", "bdxz"]), chance.randint(1, 5), most_back=3)
            for _ in range(6):
                text = "".join(chance.choices(expander[0], k=chance.randint(0, 6)))
                most = chance.randint(1, 40)
                told = stands(expander, text, most=most)
                self.assertEqual(told, plain_stands(expander, text, most))
                self.assertEqual(begin(expander, text), told[0])
                for stand, following in zip(told, told[1:]):
                    self.assertEqual(step(expander, stand), following)
                if len(told) < most:
                    _, front, state = told[-1]
                    kind = ("breaks", [(state, front[0])]) if front else ("ends", [])
                    self.assertEqual(thrown(step, expander, told[-1]), kind)

    def test_all_short_texts(self):
        for expander in EXPANDERS:
            for text in texts(expander[0], 4):
                self.assertEqual(stands(expander, text), plain_stands(expander, text, 100))

    def test_what_is_returned_is_new(self):
        told = stands(DOUBLE, "a")
        told.clear()
        self.assertEqual(len(stands(DOUBLE, "a")), 4)
        error = None
        try:
            step(AHEAD, ("", "b", 0))
        except NoOutcome as caught:
            error = caught
        error.thread.append("more")
        self.assertEqual(thrown(step, AHEAD, ("", "b", 0)), ("breaks", [(0, "b")]))


if __name__ == "__main__":
    unittest.main()
