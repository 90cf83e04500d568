"""Points 6 and 7: live and reached states, begins, and least forms."""

import copy
import random
import unittest

from rescans.calls import outcome, plain
from rescans.errors import NoExpander
from rescans.expanders import copier, is_expander, is_plain
from rescans.least import begins, is_least, least, live_states, reached_states
from plainly import (
    done_later, drawn, least_by_outcomes, longest_begin, otherwise, outcomes, renumbered, run_plain, run_values,
    told_twice, with_dead, with_unreached,
)
from samples import AHEAD, DOUBLE, EXPANDERS, FOUR, LOOP, NO_EXPANDERS, STUCK, SWAP, TOWER, limit, of_size

WITH_EXPANDER = [live_states, reached_states, begins, least, is_least]
NOTHING = ((None, None), None)


def drawn_ones(seed, many):
    chance = random.Random(seed)
    for _ in range(many):
        signs = chance.choice(["a", "a", "ab", "ab", "abc"])
        states = chance.randint(1, 5 if signs == "a" else 4 if signs == "ab" else 2)
        # Few signs, and few words, so that states are alike now and then.
        most, gaps, lasts = chance.choice([1, 2, 3]), chance.choice([0, 0.2, 0.5]), chance.choice([0.2, 0.6])
        yield chance, drawn(chance, signs, states, most_done=most, gaps=gaps, lasts=lasts)


def row_of(words, last):
    """A plain expander of one sign: a row of states, each with its word, that ends with last."""
    states = [(((word, "", at + 1),), None) for at, word in enumerate(words)]
    return "a", "", tuple(states) + (((None,), last),)


class StatesTest(unittest.TestCase):
    def test_live_and_reached(self):
        for expander, live, reached in [
                (DOUBLE, [0], [0]), (LOOP, [0], [0]), (AHEAD, [0, 1, 2, 3], [0, 1, 2]), (STUCK, [], [0]),
                (TOWER, [0, 1, 2], [0]), (FOUR, [1], [0]), (copier("abcd"), [0], [0])]:
            self.assertEqual(live_states(expander), live)
            self.assertEqual(reached_states(expander), reached)

    def test_they_are_meant_in_the_plain_form(self):
        # The call (0, "a") comes to state 1 on its way, and to state 2 at its end.
        passing = ("ab", "", (((("", "b", 1), None), None), ((None, ("", "", 2)), ""), ((None, None), None)))
        self.assertEqual((live_states(passing), reached_states(passing)), ([1], [0, 2]))
        # The move to state 1 is none in the plain form, since the call has no value.
        broken = ("ab", "", (((("", "bb", 1), None), None), ((None, ("", "", 0)), "")))
        self.assertEqual((live_states(broken), reached_states(broken)), ([1], [0]))

    def test_drawn_expanders_by_all_texts(self):
        for _, expander in drawn_ones(21, 300):
            told = run_plain(expander, run_values(expander))
            many = len(expander[2])
            ended = [state for state in range(many) if outcomes(told, many, state)]
            everywhere = expander[0], "", tuple((moves, "") for moves, _ in told[2])
            met = {walked(everywhere, text) for text in outcomes(everywhere, many)}
            self.assertEqual(live_states(expander), ended, expander)
            self.assertEqual(reached_states(expander), sorted(met), expander)


def walked(plain_one, text):
    state = 0
    for sign in text:
        state = plain_one[2][state][0][plain_one[0].index(sign)][2]
    return state


class BeginsTest(unittest.TestCase):
    def test_begins(self):
        self.assertEqual(begins(AHEAD), {0: "ab", 1: "ab", 2: "", 3: "a"})
        self.assertEqual(begins(STUCK), {})
        self.assertEqual(begins(DOUBLE), {0: ""})
        # The word first does not belong to what is done from a state on.
        self.assertEqual(begins(("a", "a", (((None,), "aa"),))), {0: "aa"})

    def test_rounds(self):
        turns = ("ab", "", (((("ab", "", 0), None), "abab"),))
        self.assertEqual(begins(turns), {0: "abab"})
        self.assertEqual(begins(("ab", "", (((("ab", "", 0), None), "aba"),))), {0: "aba"})
        self.assertEqual(begins(("ab", "", (((("ab", "", 0), None), "abb"),))), {0: "ab"})
        self.assertEqual(begins(("ab", "", (((("ba", "", 0), None), "abb"),))), {0: ""})
        self.assertEqual(begins(("ab", "", (((("", "", 0), None), "abb"),))), {0: "abb"})

    def test_what_is_not_live_does_not_count(self):
        dead = ("ab", "", (((("b", "", 1), ("ab", "", 0)), "aba"), ((("", "", 1), None), None)))
        self.assertEqual(begins(dead), {0: "aba"})

    def test_states_that_are_not_reached_count(self):
        self.assertEqual(begins(("a", "", (((None,), None), ((("aa", "", 2),), None), ((None,), "a")))),
                         {1: "aaa", 2: "a"})

    def test_long_begins(self):
        row = row_of(["a" * 2000] * 59, "a" * 2000)
        told = begins(row)
        self.assertEqual(list(told), list(range(60)))
        self.assertEqual([len(word) for word in told.values()], [2000 * (60 - state) for state in range(60)])
        self.assertEqual({*told[0]}, {"a"})
        last = "ab", "", tuple(((("ab" * 1000, "", at + 1), None), None) for at in range(59)) + (((None, None), "b"),)
        self.assertEqual(begins(last)[0], "ab" * 59000 + "b")

    def test_begins_told_late(self):
        # Behind 59 moves there is one "b", or one "a": all but the state with both have long begins.
        row = tuple(((("ab" * 1000, "", at + 1), None), None) for at in range(58))
        expander = ("ab", "", row + (((("a", "", 59), ("b", "", 59)), None), ((None, None), "")))
        self.assertEqual([len(word) for word in begins(expander).values()],
                         [2000 * (58 - at) for at in range(59)] + [0])

    def test_rounds_of_many_states(self):
        # All states are in one round of the word (ab)*, and the last says where it may end.
        for many in (1, 7, 60):
            states = tuple(((("ab" * 500, "", (at + 1) % many), None), "ab" * 700 if at == many - 1 else None)
                           for at in range(many))
            told = begins(("ab", "", states))
            sizes = [1000 * (many - 1 - at) + 1400 for at in range(many)]
            self.assertEqual([len(told[at]) for at in range(many)], sizes)
            states = states[:-1] + ((states[-1][0], "ab" * 700 + "b"),)
            told = begins(("ab", "", states))
            self.assertEqual([len(told[at]) for at in range(many)], sizes)

    def test_drawn_expanders_by_their_outcomes(self):
        found = {"some": 0, "none": 0}
        for _, expander in drawn_ones(22, 400):
            told = run_plain(expander, run_values(expander))
            many = len(expander[2])
            right = {}
            for state in range(many):
                # Two rounds that are apart from one another tell nothing new, so ways of twice as many states do.
                words = [word for word in outcomes((told[0], "", told[2]), 2 * many, state).values()]
                if words:
                    right[state] = longest_begin(words)
                    found["some" if right[state] else "none"] += 1
            self.assertEqual(begins(expander), right, expander)
            self.assertEqual(list(begins(expander)), sorted(right))
        self.assertGreater(min(found.values()), 100)


class LeastTest(unittest.TestCase):
    def test_least_forms(self):
        self.assertEqual(least(AHEAD), ("ab", "ab", (((("", "", 1), None), None), ((None, ("", "", 2)), None),
                                                     ((("a", "", 2), None), "b"))))
        self.assertEqual(least(("a", "a", (((("a", "", 0),), None),))), ("a", "", (((None,), None),)))
        self.assertEqual(least(DOUBLE), plain(DOUBLE))
        self.assertEqual(least(LOOP), ("ab", "", (((None, ("b", "", 0)), ""),)))
        self.assertEqual(least(SWAP), SWAP)
        self.assertEqual(least(FOUR), ("bdxz", "", (((None,) * 4, None),)))
        self.assertEqual(least(TOWER), ("ar", "", (((("ar" * 9, "", 0), None), ""),)))
        for signs in ("a", "bc", "abcd"):
            self.assertEqual(least(copier(signs)), copier(signs))

    def test_state_zero_is_not_live(self):
        nothing = ("ab", "", ((((None, None), None)),))
        for expander in [("ab", "ba", (NOTHING,)), ("ab", "b", (NOTHING, ((("a", "", 1), None), "b"))),
                         ("ab", "ab", (((("a", "", 1), None), None), ((None, ("", "", 0)), None)))]:
            self.assertEqual(least(expander), nothing)
            self.assertIs(is_least(expander), False)
        self.assertIs(is_least(nothing), True)

    def test_states_are_told_by_the_first_texts(self):
        # The texts a, b, aa, ab come to the states 3, 1, 2, 4.
        states = (((("a", "", 3), ("b", "", 1)), ""), ((None, None), "a"), ((None, None), "b"),
                  ((("", "", 2), ("", "", 4)), "aa"), ((None, None), "bb"))
        self.assertEqual(least(("ab", "", states)), ("ab", "", (
            ((("a", "", 1), ("ba", "", 2)), ""), ((("b", "", 2), ("bb", "", 2)), "aa"), ((None, None), ""))))
        lasts = (((("", "", 3), ("b", "", 1)), None), ((None, None), ""), ((None, None), "a"),
                 ((("", "", 2), ("", "", 4)), ""), ((("b", "", 1), None), "aa"))
        self.assertEqual(least(("ab", "", lasts)), ("ab", "", (
            ((("", "", 1), ("b", "", 2)), None), ((("a", "", 2), ("", "", 3)), ""), ((None, None), ""),
            ((("b", "", 2), None), "aa"))))

    def test_states_with_the_same_outcomes_are_one(self):
        twice = ("a", "", (((("a", "", 1),), ""), ((("a", "", 2),), ""), ((("a", "", 0),), "")))
        self.assertEqual(least(twice), ("a", "", (((("a", "", 0),), ""),)))
        # Here they are so only when their words are told early.
        late = ("ab", "", (((("b", "", 1), ("", "", 2)), ""), ((("a", "", 1), None), "a"), ((("a", "", 2), None), "")))
        self.assertEqual(least(late), ("ab", "", (((("ba", "", 1), ("", "", 1)), ""), ((("a", "", 1), None), ""))))
        other = ("ab", "", late[2][:2] + (((("a", "", 2), None), "ba"),))
        self.assertEqual(len(least(other)[2]), 3)

    def test_sixty_states(self):
        states = tuple(((("", "", (at + 1) % 60), None), "a" if at == 59 else "b") for at in range(60))
        self.assertIs(is_least(("ab", "", states)), True)
        same = tuple(((("", "", (at + 1) % 60), None), "a" if at % 6 == 5 else "b") for at in range(60))
        self.assertEqual(least(("ab", "", same)), ("ab", "", tuple(
            ((("", "", (at + 1) % 6), None), "a" if at == 5 else "b") for at in range(6))))
        chance = random.Random(23)
        signs = "abcd"
        for _ in range(5):
            expander = drawn(chance, signs, 60, gaps=0.3, most_back=0, most_done=3)
            told = least(expander)
            self.assertIs(is_least(told), True)
            for _ in range(3):
                self.assertEqual(least(renumbered(chance, expander)), told)

    def test_drawn_expanders_by_their_outcomes(self):
        sizes = {}
        for _, expander in drawn_ones(24, 400):
            many = len(expander[2])
            table = outcomes(run_plain(expander, run_values(expander)), 3 * many)
            right = least_by_outcomes(expander[0], table, many, 2 * many)
            told = least(expander)
            self.assertEqual(told, right, expander)
            self.assertIs(is_least(expander), expander == right)
            self.assertIs(is_least(told), True)
            self.assertTrue(is_expander(told) and is_plain(told))
            sizes[len(right[2])] = sizes.get(len(right[2]), 0) + 1
        self.assertTrue(all(sizes.get(many, 0) > 20 for many in (1, 2, 3)), sizes)

    def test_expanders_told_otherwise(self):
        changed = 0
        for chance, expander in drawn_ones(25, 300):
            form = run_plain(expander, run_values(expander))
            told = least(expander)
            for change in (renumbered, told_twice, with_dead, with_unreached, done_later):
                self.assertEqual(least(change(chance, form)), told, (change, form))
            for turns in (1, 3, 6):
                other = otherwise(chance, form, turns)
                changed += other != form
                self.assertEqual(least(other), told, (expander, other))
                self.assertIs(is_least(other), other == told)
        self.assertGreater(changed, 300)

    def test_the_least_form_has_the_same_outcomes(self):
        for expander in EXPANDERS:
            table = outcomes(plain(expander), 5)
            self.assertEqual(outcomes(least(expander), 5), table)
            for text, word in table.items():
                self.assertEqual(outcome(least(expander), text), word)


class IsLeastTest(unittest.TestCase):
    def test_what_is_not_least(self):
        self.assertIs(is_least(AHEAD), False)
        self.assertIs(is_least(DOUBLE), False)
        self.assertIs(is_least(plain(DOUBLE)), True)
        right = ("ab", "b", (((("", "", 1), ("a", "", 2)), None), ((None, None), ""), ((("b", "", 2), None), "")))
        self.assertIs(is_least(right), True)
        self.assertIs(is_least(("ab", "b", right[2] + (NOTHING,))), False)
        self.assertIs(is_least(("ab", "b", right[2] + (right[2][2],))), False)
        swapped = ("ab", "b", (((("", "", 2), ("a", "", 1)), None), ((("b", "", 1), None), ""), right[2][1]))
        self.assertEqual((least(swapped), is_least(swapped)), (right, False))
        late = ("ab", "", (((("b", "", 1), ("ba", "", 2)), None),) + right[2][1:])
        self.assertEqual((least(late), is_least(late)), (right, False))
        back = ("ab", "b", right[2][:2] + (((("", "a", 3), None), ""), ((("b", "", 2), None), None)))
        self.assertEqual((least(back), is_least(back)), (right, False))


class LimitTest(unittest.TestCase):
    def test_calls_with_long_values(self):
        for function in WITH_EXPANDER:
            self.assertIsNone(limit(function, of_size(2000)))
            self.assertEqual(limit(function, of_size(2001)), 2000)
            shifted = (tuple((word, back, 1) for word, back, _ in of_size(2001)[2][0][0]), None)
            self.assertEqual(limit(function, ("ab", "", (NOTHING, shifted))), 2000)

    def test_words_of_least_forms(self):
        nothing = (None,)
        for size in (1999, 2000, 2001):
            for expander in [
                    # The word first, the word of a move, and a last, which are longer than all that they are made of.
                    ("a", "a" * 1000, (((None,), "a" * (size - 1000)),)),
                    ("a", "a" * 1000, (((("a" * (size - 1001), "", 1),), None), (nothing, "a"))),
                    ("a", "", (((("a" * 1500, "", 1),), ""), (nothing, "a" * (size - 1500)))),
                    ("ab", "", (((("a" * 1999, "", 1), ("b", "", 1)), None), ((None, None), "a" * (size - 1999))))]:
                self.assertTrue(is_expander(expander))
                if size <= 2000:
                    self.assertEqual(max(len(word) for word in words_of(least(expander))), size)
                else:
                    self.assertEqual(limit(least, expander), 2000)
                self.assertEqual(len(begins(expander)), len(expander[2]))
                self.assertIs(is_least(expander), size <= 2000 and least(expander) == expander)

    def test_a_long_word_of_what_is_left_out(self):
        far = ((("a" * 2000, "", 3), None), None)
        expander = ("ab", "", (((("a", "", 0), None), ""), ((("a" * 2000, "", 2), None), ""), far, ((None, None), "a")))
        self.assertEqual(least(expander), ("ab", "", (((("a", "", 0), None), ""),)))
        self.assertEqual(len(begins(expander)[2]), 2001)

    def test_words_become_shorter(self):
        expander = ("ab", "", (((("a" * 2000, "", 0), ("b" * 2000, "", 1)), None), ((None, None), "")))
        self.assertIs(is_least(expander), True)
        self.assertEqual(least(("a", "", (((None,), "a" * 2000),))), ("a", "a" * 2000, (((None,), ""),)))


def words_of(expander):
    _, first, states = expander
    return [first] + [last for _, last in states if last is not None] + \
        [move[0] for moves, _ in states for move in moves if move is not None]


class ArgumentsTest(unittest.TestCase):
    def test_what_is_no_expander(self):
        for thing in NO_EXPANDERS:
            for function in WITH_EXPANDER:
                with self.subTest(thing=thing, function=function.__name__):
                    kept = copy.deepcopy(thing)
                    self.assertRaises(NoExpander, function, thing)
                    self.assertEqual(thing, kept)

    def test_what_is_returned_is_new(self):
        for function in (live_states, reached_states, begins):
            told = function(AHEAD)
            kept = copy.deepcopy(told)
            told.clear()
            self.assertEqual(function(AHEAD), kept)


if __name__ == "__main__":
    unittest.main()
