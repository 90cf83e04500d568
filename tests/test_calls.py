"""Points 5 and 6: values, threads, plain forms and outcomes."""

import copy
import random
import unittest

from rescans.calls import ends_always, outcome, plain, shows_thread, thread, value, values
from rescans.errors import NoCall, NoExpander, NoText
from rescans.expanders import is_expander, is_plain
from plainly import drawn, outcomes, run_plain, run_thread, run_values, sizes_by_rounds, texts
from samples import (
    AHEAD, DOUBLE, EXPANDERS, FOUR, LOOP, NO_EXPANDERS, ODD, STUCK, SWAP, TOWER, chain, ladder, of_size, places, thrown,
)

WITH_EXPANDER = [
    lambda one: value(one, 0, one[0][0]), lambda one: thread(one, 0, one[0][0]), values,
    lambda one: shows_thread(one, [(0, one[0][0])]), lambda one: shows_thread(one, None), plain,
    lambda one: outcome(one, ""), ends_always,
]


def drawn_ones(seed, many):
    """Expanders of up to five states, with backs that are not too long for runs that never end."""
    chance = random.Random(seed)
    for _ in range(many):
        signs = chance.choice(["a", "ab", "ab", "abc"])
        states = chance.randint(1, 5 if len(signs) < 3 else 3)
        gaps = chance.choice([0, 0.1, 0.3])
        yield chance, drawn(chance, signs, states, gaps=gaps)


def drawn_rows(chance, many, words, gaps):
    """An expander whose calls put back rows that are read in the next state, up to a "d" that goes back to this one."""
    states = []
    for state in range(many):
        moves = []
        for sign in "abcd":
            done = chance.choice("abcd") if chance.random() < words else ""
            back = "".join(chance.choices("abc", k=chance.randint(1, 4))) + "d"
            if sign == "d" or state == many - 1:
                moves.append((done, "", max(0, state - (sign == "d"))))
            elif chance.random() < gaps:
                moves.append(chance.choice([None, (done, back, chance.randint(0, state))]))
            else:
                moves.append((done, back, state + 1))
        states.append((tuple(moves), None))
    return "abcd", "", tuple(states)


class ValueTest(unittest.TestCase):
    def test_values(self):
        self.assertEqual(value(DOUBLE, 0, "a"), ("bb", 0))
        self.assertEqual(value(DOUBLE, 0, "b"), ("b", 0))
        self.assertEqual(value(AHEAD, 1, "b"), ("ab", 2))
        self.assertEqual(value(TOWER, 0, "a"), ("ar" * 9, 0))
        self.assertEqual(values(TOWER), {
            (0, "a"): ("ar" * 9, 0), (0, "r"): None, (1, "a"): ("ar" * 3, 1), (1, "r"): ("", 0),
            (2, "a"): ("ar", 2), (2, "r"): ("", 1)})

    def test_the_last_is_not_looked_at(self):
        self.assertEqual(value(STUCK, 0, "a"), ("a", 0))
        self.assertEqual(values(AHEAD)[(0, "a")], ("", 1))

    def test_calls_without_a_value(self):
        self.assertEqual(thrown(value, LOOP, 0, "a"), ("endless", [(0, "a"), (0, "a")]))
        self.assertEqual(thrown(value, AHEAD, 0, "b"), ("breaks", [(0, "b")]))
        self.assertEqual(thrown(value, FOUR, 0, "d"), ("breaks", [(0, "d"), (1, "x")]))
        self.assertEqual(thrown(value, FOUR, 0, "b"), ("breaks", [(0, "b")]))

    def test_what_is_no_call(self):
        for state in ODD + [4, 60, "0", "a", [0], (0,)]:
            if state not in (0, 1) or isinstance(state, bool):
                self.assertRaises(NoCall, value, AHEAD, state, "a")
                self.assertRaises(NoCall, thread, AHEAD, state, "a")
        for sign in ODD + ["", "ab", "ba", "c", "A", " ", "aa", ("a",), ["a"], {"a": 1}]:
            self.assertRaises(NoCall, value, AHEAD, 0, sign)
            self.assertRaises(NoCall, thread, AHEAD, 0, sign)
        self.assertRaises(NoCall, value, of_size(2001), True, "a")
        self.assertRaises(NoCall, thread, of_size(2001), 0, "c")

    def test_no_expander_comes_first(self):
        for thing in NO_EXPANDERS:
            with self.subTest(thing=thing):
                self.assertRaises(NoExpander, value, thing, None, None)
                self.assertRaises(NoExpander, thread, thing, None, None)
                self.assertRaises(NoExpander, outcome, thing, None)
                for function in (values, plain, ends_always):
                    self.assertRaises(NoExpander, function, thing)
                self.assertRaises(NoExpander, shows_thread, thing, [])

    def test_drawn_expanders_by_their_runs(self):
        kinds = {"value": 0, "breaks": 0, "endless": 0}
        for _, expander in drawn_ones(5, 400):
            kept = copy.deepcopy(expander)
            by_runs = run_values(expander)
            told = values(expander)
            self.assertEqual(list(told), sorted(by_runs))
            for call, found in by_runs.items():
                if isinstance(found, tuple):
                    kinds["value"] += 1
                    self.assertEqual(told[call], found, (expander, call))
                    self.assertEqual(value(expander, *call), found)
                    self.assertEqual(thread(expander, *call), [])
                else:
                    kinds[found] += 1
                    self.assertIsNone(told[call], (expander, call))
                    row = run_thread(expander, by_runs, call)
                    self.assertEqual(thread(expander, *call), row)
                    self.assertEqual(thrown(value, expander, *call), (found, row))
            self.assertEqual(expander, kept)
        self.assertTrue(all(many > 100 for many in kinds.values()), kinds)

    def test_values_of_very_many_steps(self):
        for many in (2, 12, 60):
            tall = ladder(many)
            self.assertEqual(value(tall, 0, "a"), ("", 0))
            self.assertEqual(values(tall)[(many - 1, "a")], ("", many - 1))
            self.assertEqual(outcome(tall, "a" * 200), "")
        self.assertEqual(value(ladder(7, "a"), 0, "a"), ("a" * 364, 0))
        self.assertEqual(thrown(value, ladder(60, "a"), 0, "a"), 2000)

    def test_sixty_states_that_put_back_into_one_another(self):
        chance = random.Random(11)
        kinds = {"too long": 0, "value": 0, "none": 0}
        for turn in range(60):
            expander = drawn_rows(chance, 60, [0, 0, 0.002, 0.1][turn % 4], 0.005 * (turn % 3))
            sizes = sizes_by_rounds(expander)
            if any(size > 2000 for size, _ in sizes.values()):
                kinds["too long"] += 1
                self.assertEqual(thrown(values, expander), 2000)
                continue
            told = values(expander)
            for call, found in told.items():
                kinds["none" if found is None else "value"] += 1
                self.assertEqual(sizes.get(call), found and (len(found[0]), found[1]))
            call = chance.choice(list(told))
            self.assertIs(shows_thread(expander, thread(expander, *call)), told[call] is None)
        self.assertTrue(all(many > 5 for many in kinds.values()), kinds)

    def test_long_backs(self):
        long = "ab" * 1000
        states = tuple((((("", long, state + 1), ("", "", state + 1)), "") if state < 59 else
                        ((("", "", 59), ("", "", 59)), "")) for state in range(60))
        self.assertEqual(set(values(("ab", "", states)).values()), {("", 59), *(("", at) for at in range(1, 60))})


class ThreadTest(unittest.TestCase):
    def test_threads(self):
        self.assertEqual(thread(LOOP, 0, "a"), [(0, "a"), (0, "a")])
        self.assertEqual(thread(LOOP, 0, "b"), [])
        self.assertEqual(thread(FOUR, 0, "d"), [(0, "d"), (1, "x")])
        self.assertEqual(thread(FOUR, 0, "z"), [])

    def test_the_first_call_without_a_value(self):
        # State 1 does "a" and stays; "b" has no move there, and "c" goes on for ever.
        expander = ("abc", "", (((("", "abc", 1), ("", "acb", 1), ("", "a", 1)), ""),
                                ((("a", "", 1), None, ("", "c", 1)), "")))
        self.assertEqual(thread(expander, 0, "a"), [(0, "a"), (1, "b")])
        self.assertEqual(thread(expander, 0, "b"), [(0, "b"), (1, "c"), (1, "c")])
        self.assertEqual(thread(expander, 0, "c"), [])

    def test_a_round_that_the_first_call_is_not_in(self):
        expander = ("ab", "", (((("", "b", 1), None), ""), ((("", "b", 1), ("", "a", 1)), "")))
        self.assertEqual(thread(expander, 0, "a"), [(0, "a"), (1, "b"), (1, "a"), (1, "b")])
        self.assertEqual(thrown(value, expander, 0, "a"), ("endless", [(0, "a"), (1, "b"), (1, "a"), (1, "b")]))
        self.assertEqual(thrown(outcome, expander, "ab"), ("endless", [(0, "a"), (1, "b"), (1, "a"), (1, "b")]))

    def test_threads_of_many_calls(self):
        for many in (1, 2, 59, 60):
            row = [(state, sign) for state in range(many) for sign in "abcd"]
            breaks, rounds = chain(many, None), chain(many, ("", "ab", many - 1))
            self.assertEqual(thread(breaks, 0, "a"), row)
            self.assertEqual(thrown(value, breaks, 0, "a"), ("breaks", row))
            self.assertEqual(thread(rounds, 0, "a"), row + [(many - 1, "a")])
            self.assertEqual(thrown(value, rounds, 0, "a"), ("endless", row + [(many - 1, "a")]))
            back = chain(many, ("a" * 2000, "aaaa", 0))
            self.assertEqual(thread(back, 0, "a"), row + [(0, "a")])
            self.assertEqual(thread(back, 0, "c"), row[2:] + row[:3])
            self.assertTrue(shows_thread(back, row[2:] + row[:3]))
            self.assertEqual(value(chain(many, ("a", "", 0)), 0, "b"), ("a", 0))

    def test_what_is_returned_is_new(self):
        told = thread(LOOP, 0, "a")
        told.clear()
        self.assertEqual(thread(LOOP, 0, "a"), [(0, "a"), (0, "a")])
        found = values(LOOP)
        found.clear()
        self.assertEqual(values(LOOP), {(0, "a"): None, (0, "b"): ("b", 0)})
        for function in (lambda: value(LOOP, 0, "a"), lambda: outcome(LOOP, "a"), lambda: outcome(STUCK, "a")):
            kind, row = thrown(function)
            row.append("more")
            self.assertEqual(thrown(function), (kind, row[:-1]))


class ShowsThreadTest(unittest.TestCase):
    def test_threads_and_their_parts(self):
        for row in [(0, "d"), (1, "x")], [(1, "x")], [(0, "b")]:
            self.assertIs(shows_thread(FOUR, row), True)
        for row in [], [(0, "d")], [(0, "z")], [(0, "d"), (1, "x"), (1, "x")], [(1, "x"), (0, "d")], \
                [(0, "d"), (1, "z")], [(0, "x"), (0, "x")]:
            self.assertIs(shows_thread(FOUR, row), False, row)

    def test_objects_of_any_form(self):
        row = [(0, "d"), (1, "x")]
        things = ODD + [
            tuple(row), [list(one) for one in row], [(0, "d"), (True, "x")], [(False, "d"), (1, "x")],
            [(0, "d"), [1, "x"]], [(0, "d"), (1, "x", None)], [(0, "d"), (1,)], [(0, "d"), ()], [(0, "d"), None],
            [None, (1, "x")], [(0, "d"), (1, "")], [(0, "d"), (2, "x")], [(0, "d"), (-1, "x")], [(0, ["d"]), (1, "x")],
            {(0, "d"): (1, "x")}, {0: (0, "d"), 1: (1, "x")}, [[(0, "d"), (1, "x")]], ["0d", "1x"], "0d1x",
            [(1, "xz")], [(0, "bd")], [({}, []), ([], {})], row * 50000, [(60, "b")], ["ab", "cd"], "ab",
        ]
        for thing in things:
            with self.subTest(thing=str(thing)[:80]):
                kept = copy.deepcopy(thing)
                self.assertIs(shows_thread(FOUR, thing), False)
                self.assertEqual(thing, kept)

    def test_drawn_rows(self):
        found = 0
        for chance, expander in drawn_ones(6, 150):
            by_runs = run_values(expander)
            for call in by_runs:
                row = run_thread(expander, by_runs, call)
                self.assertIs(shows_thread(expander, row), row != [])
                found += row != []
                for _ in range(4):
                    bent = list(row)
                    kind = chance.randint(0, 3)
                    if kind == 0:
                        bent.append(chance.choice(list(by_runs)))
                    elif kind == 1:
                        bent.insert(0, chance.choice(list(by_runs)))
                    elif row:
                        bent[chance.randrange(len(row))] = chance.choice(list(by_runs))
                        bent = bent[:chance.randint(1, len(bent))]
                    right = bent != [] and bent == run_thread(expander, by_runs, bent[0])
                    self.assertIs(shows_thread(expander, bent), right, (expander, bent))
        self.assertGreater(found, 100)


class PlainTest(unittest.TestCase):
    def test_plain_forms(self):
        self.assertEqual(plain(DOUBLE), ("ab", "", (((("bb", "", 0), ("b", "", 0)), ""),)))
        self.assertEqual(plain(LOOP), ("ab", "", (((None, ("b", "", 0)), ""),)))
        self.assertEqual(plain(FOUR), ("bdxz", "zx", (((None, None, None, ("", "", 0)), None), FOUR[2][1])))
        for expander in (SWAP, AHEAD, STUCK):
            self.assertEqual(plain(expander), expander)

    def test_drawn_expanders(self):
        for _, expander in drawn_ones(7, 300):
            told = plain(expander)
            self.assertEqual(told, run_plain(expander, run_values(expander)))
            self.assertTrue(is_expander(told) and is_plain(told))
            self.assertEqual(plain(told), told)
            self.assertEqual(ends_always(told), ends_always(expander))


class OutcomeTest(unittest.TestCase):
    def test_outcomes(self):
        self.assertEqual(outcome(DOUBLE, "aba"), "bbbbb")
        self.assertEqual(outcome(DOUBLE, ""), "")
        self.assertEqual(outcome(AHEAD, "ab"), "abb")
        self.assertEqual(outcome(("a", "aa", (((("a", "", 0),), "a"),)), "a"), "aaaa")

    def test_texts_without_one(self):
        self.assertEqual(thrown(outcome, LOOP, "bba"), ("endless", [(0, "a"), (0, "a")]))
        self.assertEqual(thrown(outcome, AHEAD, "aa"), ("breaks", [(1, "a")]))
        self.assertEqual(thrown(outcome, AHEAD, "a"), ("last", []))
        self.assertEqual(thrown(outcome, STUCK, ""), ("last", []))
        self.assertEqual(thrown(outcome, FOUR, "zzdb"), ("breaks", [(0, "d"), (1, "x")]))
        self.assertEqual(thrown(outcome, FOUR, "zzb"), ("breaks", [(0, "b")]))

    def test_what_is_no_text(self):
        for thing in ODD + ["c", "abc", "A", " ", "a" * 201, "a" * 5000, ("a",), ["a"]]:
            with self.subTest(thing=thing):
                self.assertRaises(NoText, outcome, DOUBLE, thing)
                self.assertRaises(NoText, outcome, of_size(2001), thing)
        self.assertEqual(outcome(DOUBLE, "a" * 200), "b" * 400)

    def test_drawn_expanders(self):
        for _, expander in drawn_ones(8, 150):
            by_runs = run_values(expander)
            found = outcomes(run_plain(expander, by_runs), 4)
            for text in texts(expander[0], 4):
                if text in found:
                    self.assertEqual(outcome(expander, text), found[text])
                    continue
                state, told = 0, ("last", [])
                for sign in text:
                    if not isinstance(by_runs[state, sign], tuple):
                        told = by_runs[state, sign], run_thread(expander, by_runs, (state, sign))
                        break
                    state = by_runs[state, sign][1]
                self.assertEqual(thrown(outcome, expander, text), told, (expander, text))


class EndsAlwaysTest(unittest.TestCase):
    def test_expanders(self):
        for expander, told in [(DOUBLE, True), (LOOP, False), (SWAP, True), (AHEAD, False), (TOWER, False),
                               (STUCK, False), (FOUR, False), (ladder(60), True)]:
            self.assertIs(ends_always(expander), told, expander)

    def test_states_that_are_not_reached_do_not_count(self):
        broken = ((None, None), None)
        self.assertIs(ends_always(("ab", "", DOUBLE[2] + (broken,))), True)
        # The plain form does not lead to state 1, though a call does.
        passing = (((("", "a", 1), ("b", "", 0)), ""), ((("", "", 0), None), None))
        self.assertIs(ends_always(("ab", "", passing)), True)
        self.assertIs(ends_always(("ab", "", (((("", "", 1), ("b", "", 0)), ""), (((("", "", 0)), None), "")))), False)
        self.assertIs(ends_always(("a", "", (((("", "", 1),), ""), ((("", "", 0),), None)))), False)
        self.assertIs(ends_always(("a", "", (((("", "", 1),), ""), ((("", "", 0),), "")))), True)

    def test_drawn_expanders(self):
        counts = {True: 0, False: 0}
        chance = random.Random(9)
        for _ in range(400):
            expander = drawn(chance, chance.choice(["a", "ab"]), chance.randint(1, 4), gaps=0.02, lasts=0.05)
            found = outcomes(run_plain(expander, run_values(expander)), 5)
            # A state that is reached is so by a text of fewer signs than there are states.
            right = len(found) == len(list(texts(expander[0], 5)))
            self.assertIs(ends_always(expander), right, expander)
            counts[right] += 1
        self.assertGreater(min(counts.values()), 30)


class LimitTest(unittest.TestCase):
    def test_values(self):
        for size in (1999, 2000):
            self.assertEqual(value(of_size(size), 0, "a"), ("a" * 1000 + "b" * (size - 1000), 0))
            self.assertEqual(len(plain(of_size(size))[2][0][0][0][0]), size)
            for function in WITH_EXPANDER:
                self.assertNotEqual(thrown(function, of_size(size)), 2000)
        for size in (2001, 2002, 3000):
            for function in WITH_EXPANDER:
                self.assertEqual(thrown(function, of_size(size)), 2000)

    def test_a_call_anywhere_counts(self):
        long = of_size(2001)[2][0]
        shifted = (tuple((word, back, 1) for word, back, _ in long[0]), None)
        for function in WITH_EXPANDER:
            self.assertEqual(thrown(function, ("ab", "", (((None, None), None), shifted))), 2000)
            self.assertEqual(thrown(function, ladder(60, "a")), 2000)

    def test_it_comes_ahead_of_no_outcome(self):
        loop = ((("", "a", 0), None), None)
        long = ((("a" * 1000, "b", 1), ("b" * 1001, "", 1)), None)
        expander = ("ab", "", (loop, long))
        for function in (lambda: value(expander, 0, "a"), lambda: thread(expander, 0, "a"),
                         lambda: outcome(expander, "a"), lambda: outcome(expander, ""),
                         lambda: shows_thread(expander, [(0, "a"), (0, "a")])):
            self.assertEqual(thrown(function), 2000)

    def test_signs_done_on_the_way_of_a_call_without_a_value(self):
        for last in (None, ("", "c", 0)):
            expander = ("abc", "", (((("a" * 2000, "bbbbc", 0), ("b" * 2000, "", 0), last), ""),))
            row = [(0, "a"), (0, "c")] + ([] if last is None else [(0, "c")])
            self.assertEqual(thread(expander, 0, "a"), row)
            self.assertEqual(thrown(value, expander, 0, "a"), ("breaks" if last is None else "endless", row))
            self.assertEqual(thrown(outcome, expander, "ba"), ("breaks" if last is None else "endless", row))
            self.assertEqual(values(expander), {(0, "a"): None, (0, "b"): ("b" * 2000, 0), (0, "c"): None})

    def test_an_endless_call_that_does_signs(self):
        grows = ("ab", "", (((("a" * 2000, "aa", 0), ("b", "", 0)), ""),))
        self.assertEqual(thrown(value, grows, 0, "a"), ("endless", [(0, "a"), (0, "a")]))
        self.assertEqual(value(grows, 0, "b"), ("b", 0))

    def test_outcomes(self):
        for many in (1999, 2000, 2001):
            whole = ("a", "a" * 500, (((("a" * 10, "", 0),), "a" * (many - 1500)),))
            if many <= 2000:
                self.assertEqual(outcome(whole, "a" * 100), "a" * many)
            else:
                self.assertEqual(thrown(outcome, whole, "a" * 100), 2000)
                self.assertEqual(outcome(whole, "a" * 99), "a" * 1991)
        full = ("a", "a" * 2000, (((("", "", 0),), ""),))
        self.assertEqual(outcome(full, "a" * 200), "a" * 2000)
        self.assertEqual(thrown(outcome, ("a", "a" * 2000, ((((None),), "a"),)), ""), 2000)

    def test_a_text_without_an_outcome_has_no_long_one(self):
        long = ("ab", "a" * 2000, (((("a" * 2000, "", 0), None), None),))
        self.assertEqual(thrown(outcome, long, "aaa"), ("last", []))
        self.assertEqual(thrown(outcome, long, "aaab"), ("breaks", [(0, "b")]))

    def test_long_outcomes_do_not_matter_elsewhere(self):
        grows = ("a", "a" * 2000, (((("a" * 2000, "", 0),), "a" * 2000),))
        self.assertIs(ends_always(grows), True)
        self.assertEqual(plain(grows), grows)
        self.assertEqual(values(grows), {(0, "a"): ("a" * 2000, 0)})


class UnchangedTest(unittest.TestCase):
    def test_nothing_is_changed(self):
        for expander in EXPANDERS:
            kept = copy.deepcopy(expander)
            for function in WITH_EXPANDER:
                thrown(function, expander)
            self.assertEqual(expander, kept)
            self.assertEqual(len(places(expander)), len(places(kept)))


if __name__ == "__main__":
    unittest.main()
