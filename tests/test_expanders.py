"""Point 3: expanders, by every condition; how they are made, their moves, and copiers."""

import copy
import random
import re
import unittest

from rescans.errors import NoCall, NoExpander
from rescans.expanders import copier, is_expander, is_plain, made, mover, need_expander
from samples import AHEAD, DOUBLE, EXPANDERS, FOUR, LOOP, ODD, STUCK, SWAP, at_place, places, replaced, state_of


def is_right(thing):
    """Point 3 once more, in another way: what breaks a condition is an assertion or a wrong type."""
    try:
        signs, first, states = thing
        assert type(thing) is tuple and type(signs) is str and type(states) is tuple
        assert re.fullmatch("[a-z]{1,4}", signs) and "".join(sorted({*signs})) == signs
        word = re.compile("[" + signs + "]{0,2000}")
        assert 1 <= len(states) <= 60 and word.fullmatch(first)
        for state in states:
            moves, last = state
            assert type(state) is tuple and type(moves) is tuple and len(moves) == len(signs)
            assert last is None or word.fullmatch(last)
            for move in moves:
                if move is not None:
                    done, back, goal = move
                    assert type(move) is tuple and word.fullmatch(done) and word.fullmatch(back)
                    assert type(goal) is int and 0 <= goal < len(states)
    except (AssertionError, TypeError, ValueError):
        return False
    return True


def with_word(word):
    """Expanders with a word at each place where one stands."""
    return [("ab", word, (((("a", "", 0), None), ""),)), ("ab", "", ((((word, "", 0), None), ""),)),
            ("ab", "", (((None, ("a", word, 0)), ""),)), ("ab", "", (((("a", "", 0), None), word),))]


class IsExpanderTest(unittest.TestCase):
    def test_expanders(self):
        for expander in EXPANDERS:
            self.assertIs(is_expander(expander), True, expander)

    def test_objects_of_any_form(self):
        for thing in ODD + ["", "ab", "a" * 5000, ("ab", ""), ("ab", "", (), ()), ("a", "", state_of(1)),
                            ("a", "", [state_of(1)]), ["a", "", (state_of(1),)], (1, 2, 3), "a,b", "abc",
                            {"a": 1, "b": 2, "c": 3}, ["a", "", "b"], [[[[[[[[[[[[[[[[[[[[]]]]]]]]]]]]]]]]]]]]]:
            self.assertIs(is_expander(thing), False, thing)

    def test_signs(self):
        for signs, right in [("a", True), ("z", True), ("ab", True), ("az", True), ("abc", True), ("abcd", True),
                             ("wxyz", True), ("", False), ("abcde", False), ("ba", False), ("aa", False),
                             ("aab", False), ("abb", False), ("acb", False), ("abdc", False), ("aba", False),
                             ("A", False), ("aB", False), ("a ", False), (" a", False), ("1", False), ("a1", False),
                             ("\n", False), ("{", False), ("`", False)]:
            with self.subTest(signs=signs):
                self.assertIs(is_expander((signs, "", (state_of(len(signs)),))), right)

    def test_signs_that_are_no_string(self):
        for signs in [None, True, 1, ("a",), ["a"], {"a": 1}, ("a", "b"), ()]:
            for many in (0, 1, 2):
                self.assertIs(is_expander((signs, "", (state_of(many),))), False, signs)

    def test_how_many_states(self):
        for many, right in [(0, False), (1, True), (2, True), (59, True), (60, True), (61, False), (1000, False)]:
            self.assertIs(is_expander(("ab", "", (state_of(2),) * many)), right, many)

    def test_how_many_moves(self):
        for signs in ("a", "ab", "abc", "abcd"):
            for many in range(6):
                self.assertIs(is_expander((signs, "", (state_of(many),))), many == len(signs), (signs, many))

    def test_words(self):
        for word, right in [("", True), ("a", True), ("ba", True), ("ab" * 1000, True), ("a" * 2000, True),
                            ("a" * 2001, False), ("a" * 5000, False), ("c", False), ("abc", False), ("A", False),
                            (" ", False), ("a b", False), ("a\n", False), (".", False), (True, False), (0, False),
                            ((), False), ([], False), (["a"], False), (("a",), False), ({}, False)]:
            for thing in with_word(word):
                self.assertIs(is_expander(thing), right, thing)

    def test_none_stands_in_the_place_of_a_move_or_a_last_alone(self):
        for thing in with_word(None)[:3]:
            self.assertIs(is_expander(thing), False, thing)
        self.assertIs(is_expander(with_word(None)[3]), True)

    def test_next_states(self):
        for many in (1, 2, 60):
            for goal, right in [(0, True), (many - 1, True), (many, False), (-1, False), (60, False), (True, False),
                                (False, False), (None, False), ("0", False), ((0,), False), ([0], False)]:
                states = (((("a", "", goal),), ""),) + (state_of(1),) * (many - 1)
                self.assertIs(is_expander(("a", "", states)), right, (many, goal))

    def test_one_object_put_in_at_each_place(self):
        things = ODD + ["", "a", "ab", "zz", "A", "ba", "a" * 2001, 2, 60, state_of(2), state_of(4)]
        for expander in EXPANDERS:
            for place in places(expander):
                for thing in things:
                    changed = replaced(expander, place, thing)
                    self.assertIs(is_expander(changed), is_right(changed), changed)

    def test_lists_in_the_place_of_tuples(self):
        for expander in EXPANDERS:
            for place in places(expander):
                part = at_place(expander, place)
                if isinstance(part, tuple):
                    self.assertIs(is_expander(replaced(expander, place, list(part))), False)
                    self.assertIs(is_expander(replaced(expander, place, dict(enumerate(part)))), False)

    def test_tuples_of_a_wrong_length(self):
        for expander in EXPANDERS:
            for place in places(expander):
                part = at_place(expander, place)
                if isinstance(part, tuple) and part:
                    for other in (part[1:], part[:-1], part + (None,), part + part[-1:], (None,) + part):
                        changed = replaced(expander, place, other)
                        self.assertIs(is_expander(changed), is_right(changed), changed)
                    if place != (2,):
                        self.assertIs(is_expander(replaced(expander, place, part + part[-1:])), False)

    def test_several_changes(self):
        chance = random.Random(7)
        things = ODD + ["", "a", "b", "ab", "z", 1, 2, None, None]
        for _ in range(3000):
            thing = chance.choice(EXPANDERS)
            for _ in range(chance.randint(1, 4)):
                thing = replaced(thing, chance.choice(places(thing)), chance.choice(things))
            self.assertIs(is_expander(thing), is_right(thing), thing)

    def test_large_objects(self):
        word = "ab" * 1000
        states = (((("ab" * 1000, word, 59), ("b", word, 0)), word),) * 60
        self.assertIs(is_expander(("ab", word, states)), True)
        self.assertIs(is_expander(("ab", word, states[:59] + ((states[0][0], word + "a"),))), False)
        self.assertIs(is_expander(tuple(range(100000))), False)
        self.assertIs(is_expander(("ab", "", tuple(range(60)))), False)

    def test_nothing_is_changed(self):
        for thing in [["ab", "", [[[["a", "", 0], None], ""]]], {"ab": ["", {}]}, ("ab", [], {}), [DOUBLE, [LOOP]]]:
            kept = copy.deepcopy(thing)
            is_expander(thing)
            for call in (lambda: need_expander(thing), lambda: is_plain(thing), lambda: mover(thing, [], {}),
                         lambda: made(thing, thing, thing), lambda: copier(thing)):
                self.assertRaises(NoExpander, call)
            self.assertEqual(thing, kept)


class NeedExpanderTest(unittest.TestCase):
    def test_it_returns_none_for_expanders(self):
        for expander in EXPANDERS:
            self.assertIsNone(need_expander(expander))

    def test_every_function_raises_ahead_of_all_else(self):
        for thing in ODD + ["", "ab", list(DOUBLE), DOUBLE + ("",), replaced(DOUBLE, (2, 0, 0, 0, 2), True)]:
            with self.subTest(thing=thing):
                self.assertRaises(NoExpander, need_expander, thing)
                self.assertRaises(NoExpander, is_plain, thing)
                self.assertRaises(NoExpander, mover, thing, 0, "a")
                self.assertRaises(NoExpander, mover, thing, None, [])


class IsPlainTest(unittest.TestCase):
    def test_plain_ones(self):
        for expander in (SWAP, AHEAD, STUCK, copier("abcd"), ("a", "a", (state_of(1),))):
            self.assertIs(is_plain(expander), True, expander)

    def test_others(self):
        late = ("ab", "", (state_of(2), ((None, ("", "a", 0)), None)))
        for expander in (DOUBLE, LOOP, FOUR, late):
            self.assertIs(is_plain(expander), False, expander)


class MadeTest(unittest.TestCase):
    def test_expanders(self):
        for expander in EXPANDERS:
            self.assertEqual(made(*expander), expander)

    def test_what_makes_none(self):
        for place in range(3):
            for thing in ODD + ["zz", "bA"]:
                parts = replaced(DOUBLE, (place,), thing)
                with self.subTest(parts=parts):
                    self.assertRaises(NoExpander, made, *parts)
        self.assertRaises(NoExpander, made, "ab", "", list(DOUBLE[2]))
        self.assertRaises(NoExpander, made, "abcde", "", (state_of(5),))


class MoverTest(unittest.TestCase):
    def test_moves(self):
        self.assertEqual(mover(DOUBLE, 0, "a"), ("", "bb", 0))
        self.assertEqual(mover(DOUBLE, 0, "b"), ("b", "", 0))
        self.assertIsNone(mover(AHEAD, 0, "b"))
        self.assertIsNone(mover(FOUR, 0, "x"))
        self.assertEqual(mover(FOUR, 0, "z"), ("", "", 0))

    def test_all_calls(self):
        for expander in EXPANDERS:
            for state in range(len(expander[2])):
                for at, sign in enumerate(expander[0]):
                    self.assertEqual(mover(expander, state, sign), expander[2][state][0][at])

    def test_what_is_no_call(self):
        for state in ODD + [4, 60, "0", "a", [0], (0,)]:
            if state not in (0, 1) or isinstance(state, bool):
                self.assertRaises(NoCall, mover, AHEAD, state, "a")
        for sign in ODD + ["", "ab", "ba", "c", "A", " ", "aa", ("a",), ["a"]]:
            self.assertRaises(NoCall, mover, AHEAD, 0, sign)
        self.assertRaises(NoCall, mover, STUCK, 1, "a")
        self.assertRaises(NoCall, mover, STUCK, 0, "b")
        self.assertRaises(NoCall, mover, STUCK, True, "a")
        self.assertRaises(NoCall, mover, STUCK, -1, "a")

    def test_nothing_is_changed(self):
        state, sign = [0, [1]], {"a": ["b"]}
        self.assertRaises(NoCall, mover, DOUBLE, state, sign)
        self.assertEqual((state, sign), ([0, [1]], {"a": ["b"]}))


class CopierTest(unittest.TestCase):
    def test_copiers(self):
        self.assertEqual(copier("ab"), ("ab", "", (((("a", "", 0), ("b", "", 0)), ""),)))
        self.assertEqual(copier("z"), ("z", "", (((("z", "", 0),), ""),)))
        for signs in ("a", "ab", "bdz", "abcd", "wxyz"):
            self.assertIs(is_plain(copier(signs)), True)
            self.assertEqual([mover(copier(signs), 0, sign) for sign in signs], [(sign, "", 0) for sign in signs])

    def test_what_are_no_signs(self):
        for signs in ODD + ["", "abcde", "ba", "aa", "aab", "A", "a ", " ", "1", "a\n", "abca", ("a", "b"), ["a"]]:
            with self.subTest(signs=signs):
                self.assertRaises(NoExpander, copier, signs)


if __name__ == "__main__":
    unittest.main()
