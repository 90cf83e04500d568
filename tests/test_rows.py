"""Point 9: one expander behind another one, settled ones, and two that can change places."""

import copy
import random
import tracemalloc
import unittest

from rescans.errors import Mismatch, NoExpander
from rescans.expanders import copier, is_expander, is_plain
from rescans.least import is_least, least
from rescans.rows import behind, change_places, in_row, settled, unsettled
from plainly import drawn, first_apart, least_by_outcomes, outcome_by, outcomes, outcomes_behind, run_plain, run_values
from samples import (
    AHEAD, DOUBLE, EXPANDERS, FOUR, LOOP, NO_EXPANDERS, ODD, STUCK, SWAP, TOWER, limit, of_size, thrown,
)

NOTHING = ("ab", "ab", (((("b", "", 0), None), None),))
NO_OUTCOME = ("ab", "", (((None, None), None),))
WITH_TWO = [behind, change_places, lambda one, other: in_row([one, other])]
ALONE = [settled, unsettled, lambda one: behind(one, one), lambda one: change_places(one, one),
         lambda one: in_row([one, one])]


def form_of(expander):
    return run_plain(expander, run_values(expander))


def drawn_pairs(seed, many):
    """Expanders of up to four states; of two signs, of so few states that all texts of some length tell all."""
    chance = random.Random(seed)
    for _ in range(many):
        signs = chance.choice(["a", "a", "ab", "ab", "abc"])
        most = {1: 4, 2: 2, 3: 1}[len(signs)]
        yield chance, [drawn(chance, signs, chance.randint(1, most), most_back=1, most_done=chance.choice([1, 2]),
                             gaps=chance.choice([0, 0.2]), lasts=chance.choice([0.1, 0.5])) for _ in range(2)]


def turning(many, signs, *, start=False):
    """A plain expander, least, that goes round by its first sign and copies the others; with a state ahead if start.

    Its round has so many states; one of them has another last.
    """
    ahead = 1 if start else 0
    states = []
    for state in range(many):
        goal = ahead + (state + 1) % many
        moves = (("", "", goal), *((sign, "", ahead + state) for sign in signs[1:]))
        states.append((moves, "" if state == 0 else signs[-1]))
    if start:
        states.insert(0, ((("", "", 1), *((None,) * (len(signs) - 1))), signs[-1] * 2))
    return signs, "", tuple(states)


def round_by_b(many):
    """An expander that goes round by "b", and copies "a" and "c"; one state has another last."""
    states = tuple(((("a", "", state), ("", "", (state + 1) % many), ("c", "", state)), "a" if state else "")
                   for state in range(many))
    return "abc", "", states


# It goes round by "b", and does nothing then: behind one that does no "a", all its states are one.
DEAF = ("ab", "", tuple((((("a" if state else "b"), "", state), ("", "", (state + 1) % 20)), "")
                        for state in range(20)))


def copying(size, signs):
    """An expander that copies each text; a call in a state that is not reached has a value of so many signs."""
    rest = (None,) * (len(signs) - 1)
    half = signs[0] * 1000
    copies = copier(signs)[2][0][0]
    return signs, "", ((copies, ""), (((half, signs[0], 2), *rest), ""),
                       (((signs[0] * (size - 1000), "", 2), *rest), ""))


class BehindTest(unittest.TestCase):
    def test_examples(self):
        self.assertEqual(behind(SWAP, SWAP), copier("ab"))
        self.assertEqual(behind(DOUBLE, SWAP), ("ab", "", (((("aa", "", 0), ("a", "", 0)), ""),)))
        self.assertEqual(behind(SWAP, DOUBLE), ("ab", "", (((("b", "", 0), ("bb", "", 0)), ""),)))
        for expander in EXPANDERS:
            self.assertEqual(behind(expander, copier(expander[0])), least(expander))
            self.assertEqual(behind(copier(expander[0]), expander), least(expander))

    def test_the_word_first_and_the_last_are_read_too(self):
        one = ("ab", "a", (((("b", "", 0), None), "ba"),))
        other = ("ab", "b", (((("", "", 1), None), "a"), ((None, ("b", "", 0)), "")))
        # first "a" leads to state 1, "b" back; the last reads "b" and then "a", and ends in state 1.
        self.assertEqual(behind(one, other), ("ab", "bb", (((None, None), ""),)))
        self.assertEqual(outcome_by(behind(one, other), ""), "bb")

    def test_first_that_breaks_off(self):
        breaks = ("ab", "", (((None, ("b", "", 0)), ""),))
        self.assertEqual(behind(("ab", "a", SWAP[2]), breaks), NO_OUTCOME)
        self.assertEqual(behind(("ab", "ba", SWAP[2]), breaks), NO_OUTCOME)
        self.assertEqual(behind(("ab", "b", (((("", "", 0), None), "a"),)), breaks), NO_OUTCOME)

    def test_none_has_outcomes(self):
        for one in (NOTHING, SWAP, DOUBLE, AHEAD):
            for other in (NOTHING, NO_OUTCOME):
                self.assertEqual(behind(one, other), NO_OUTCOME)
                self.assertEqual(behind(other, one), NO_OUTCOME)

    def test_drawn_expanders_by_all_texts(self):
        sizes = {}
        for _, (one, other) in drawn_pairs(41, 400):
            kept = copy.deepcopy((one, other))
            forms = form_of(one), form_of(other)
            pairs = len(one[2]) * len(other[2])
            table = outcomes_behind(*forms, min(3 * pairs, {1: 48, 2: 12, 3: 7}[len(one[0])]))
            told = behind(one, other)
            self.assertEqual(told, least_by_outcomes(one[0], table, pairs, 2 * pairs), (one, other))
            self.assertTrue(is_expander(told) and is_plain(told) and is_least(told))
            self.assertEqual((one, other), kept)
            sizes[len(told[2]), told == (one[0], "", (((None,) * len(one[0]), None),))] = True
        self.assertTrue({(many, False) for many in (1, 2, 3, 4)} <= set(sizes), sizes)

    def test_larger_ones_have_the_same_outcomes(self):
        chance = random.Random(42)
        counts = 0
        for _ in range(120):
            signs = chance.choice(["ab", "abc"])
            one, other = [drawn(chance, signs, chance.randint(2, 4), gaps=0, lasts=0.1) for _ in range(2)]
            told = thrown(behind, one, other)
            if told == 2000:
                continue
            most = 7 if signs == "ab" else 5
            self.assertEqual(outcomes(told, most), outcomes_behind(form_of(one), form_of(other), most))
            self.assertIs(is_least(told), True)
            counts += len(told[2]) > 3
        self.assertGreater(counts, 25)


class SettledTest(unittest.TestCase):
    def test_examples(self):
        for expander, text in [(DOUBLE, None), (SWAP, "a"), (copier("abcd"), None), (LOOP, None), (STUCK, None),
                               (NOTHING, None), (AHEAD, "ab"), (TOWER, "a"),
                               (("ab", "", (((("ab", "", 0), ("b", "", 0)), ""),)), "a")]:
            self.assertIs(settled(expander), text is None, expander)
            self.assertEqual(unsettled(expander), text, expander)

    def test_an_outcome_that_has_none(self):
        one = ("ab", "", (((("b", "", 0), None), ""),))
        self.assertEqual(unsettled(one), "a")
        self.assertIs(settled(one), False)
        # The outcome "b" of the text "b" is its own; all others have none.
        two = ("ab", "", (((None, ("b", "", 1)), None), ((None, ("", "", 2)), ""), ((None, None), "a")))
        self.assertEqual(unsettled(two), "bb")

    def test_drawn_expanders_by_all_texts(self):
        counts = {True: 0, False: 0}
        for chance, (one, _) in drawn_pairs(43, 500):
            if chance.random() < 0.4:
                one = bound_to_settle(chance, one[0])
            form = form_of(one)
            table = outcomes(form, {1: 40, 2: 11, 3: 7}[len(one[0])])
            unlike = [text for text, word in table.items() if outcome_by(form, word) != word]
            text = min(unlike, key=lambda text: (len(text), text), default=None)
            self.assertEqual(unsettled(one), text, one)
            self.assertIs(settled(one), text is None)
            counts[text is None] += 1
        self.assertGreater(min(counts.values()), 100)

    def test_a_long_first_text(self):
        # It counts up to 59, where it does one "b" too many.
        states = tuple(((("a", "", at + 1), None), "") for at in range(59)) + (((("a", "", 59), None), "b"),)
        self.assertEqual(unsettled(("ab", "", states)), "a" * 59)
        self.assertIs(settled(("ab", "", states)), False)
        self.assertIsNone(unsettled(("ab", "", states[:59] + ((states[59][0], ""),))))


def bound_to_settle(chance, signs):
    """An expander that leaves out some signs, and may go on to a state that leaves out more; or ends there."""
    states = []
    gone = ""
    for state in range(2):
        gone += "".join(sign for sign in signs if sign not in gone and chance.random() < 0.4)
        states.append((tuple(("" if sign in gone else sign, "", chance.choice([state, 1])) for sign in signs),
                       chance.choice(["", "", None])))
    return signs, "", tuple(states)


class ChangePlacesTest(unittest.TestCase):
    def test_examples(self):
        self.assertIs(change_places(DOUBLE, SWAP), False)
        drop_a = ("ab", "", (((("", "", 0), ("b", "", 0)), ""),))
        drop_b = ("ab", "", (((("a", "", 0), ("", "", 0)), ""),))
        self.assertIs(change_places(drop_a, drop_b), True)
        self.assertIs(change_places(drop_a, SWAP), False)
        self.assertIs(change_places(NOTHING, DOUBLE), True)
        for expander in EXPANDERS:
            self.assertIs(change_places(expander, expander), True)
            self.assertIs(change_places(expander, copier(expander[0])), True)

    def test_drawn_expanders_by_all_texts(self):
        counts = {True: 0, False: 0}
        for chance, (one, other) in drawn_pairs(44, 400):
            if chance.random() < 0.3:
                other = chance.choice([bound_to_settle(chance, one[0]), in_row([one, one])])
            forms = form_of(one), form_of(other)
            most = {1: 40, 2: 10, 3: 6}[len(one[0])]
            text = first_apart(outcomes_behind(*forms, most), outcomes_behind(*reversed(forms), most))
            self.assertIs(change_places(one, other), text is None, (one, other))
            self.assertIs(change_places(other, one), text is None)
            counts[text is None] += 1
        self.assertGreater(min(counts.values()), 60)


class InRowTest(unittest.TestCase):
    MANY_PAIRS = [turning(20, "ab", start=True), DEAF]
    MANY_STATES = [turning(6, "abc", start=True), round_by_b(10)]

    def test_rows(self):
        self.assertEqual(in_row([SWAP, SWAP, SWAP]), SWAP)
        self.assertEqual(in_row([DOUBLE]), least(DOUBLE))
        self.assertEqual(in_row([AHEAD]), least(AHEAD))
        self.assertEqual(in_row([DOUBLE, SWAP]), behind(DOUBLE, SWAP))
        self.assertEqual(in_row([SWAP, DOUBLE]), behind(SWAP, DOUBLE))
        self.assertEqual(in_row([SWAP] * 101), SWAP)
        self.assertEqual(in_row([DOUBLE, SWAP, DOUBLE, SWAP])[2][0][0], (("aaaa", "", 0), ("aa", "", 0)))

    def test_drawn_rows_by_all_texts(self):
        chance = random.Random(45)
        counts = 0
        for _ in range(200):
            signs = chance.choice(["a", "ab"])
            row = [drawn(chance, signs, chance.randint(1, 3), gaps=0.05, lasts=0.1, most_back=1) for _ in range(3)]
            kept = copy.deepcopy(row)
            told = thrown(in_row, row)
            self.assertEqual(row, kept)
            if told == 2000:
                continue
            most = 12 if signs == "a" else 6
            table = outcomes(form_of(row[0]), most)
            for expander in row[1:]:
                found = {text: outcome_by(form_of(expander), word) for text, word in table.items()}
                table = {text: word for text, word in found.items() if word is not None}
            self.assertEqual(outcomes(told, most), table, row)
            self.assertIs(is_least(told), True)
            counts += table != {}
        self.assertGreater(counts, 70)

    def test_what_is_no_row(self):
        for thing in [one for one in ODD if not isinstance(one, list) or one == []] + [
                (SWAP,), (SWAP, SWAP), {0: SWAP}, SWAP, "ab", {SWAP: SWAP}]:
            with self.subTest(thing=thing):
                self.assertRaises(Mismatch, in_row, thing)

    def test_a_thing_that_is_none_at_each_place(self):
        for thing in NO_EXPANDERS:
            for place in range(4):
                # Ahead of what the expanders themselves would raise.
                row = [SWAP, STUCK, of_size(2001), FOUR]
                row[place] = thing
                kept = copy.deepcopy(row)
                self.assertRaises(NoExpander, in_row, row)
                self.assertEqual(row, kept)
            self.assertRaises(NoExpander, in_row, [thing])

    def test_the_steps_raise_from_the_left(self):
        for told, row in [(400, self.MANY_PAIRS), (60, self.MANY_STATES)]:
            signs = row[0][0]
            doubled = (signs, "", (((("a" * 2000, "", 0), *copier(signs)[2][0][0][1:]), ""),))
            for ahead in range(3):
                self.assertEqual(limit(in_row, [copier(signs)] * ahead + row), told)
            self.assertEqual(limit(in_row, row + [doubled, doubled]), told)
            self.assertEqual(limit(in_row, [doubled, doubled] + row), 2000)

    def test_unlike_signs_come_ahead_of_all_limits(self):
        # A too long value, a too long word, 401 pairs, and 61 states: ahead of and behind the one with other signs.
        for told, row in [(2000, [of_size(2001)]), (2000, [of_size(2001), SWAP]), (2000, [SWAP, SWAP, of_size(2001)]),
                          (2000, [("ab", "a" * 1001, copier("ab")[2]), DOUBLE, SWAP]),
                          (400, self.MANY_PAIRS), (400, [SWAP, SWAP, *self.MANY_PAIRS]), (60, self.MANY_STATES)]:
            self.assertEqual(limit(in_row, row), told)
            for other in (copier("a"), copier("abcd"), copying(2001, "b")):
                for place in range(len(row) + 1):
                    unlike = row[:place] + [other] + row[place:]
                    kept = copy.deepcopy(unlike)
                    self.assertRaises(Mismatch, in_row, unlike)
                    self.assertRaises(NoExpander, in_row, unlike + [None])
                    self.assertRaises(NoExpander, in_row, [()] + unlike)
                    self.assertEqual(unlike, kept)

    def test_long_values_come_ahead_of_pairs_and_states(self):
        # Those of each expander of the row, also of one that only a later step reads.
        for told, row in [(400, self.MANY_PAIRS), (60, self.MANY_STATES)]:
            signs = row[0][0]
            for place in range(len(row) + 1):
                for size in (2000, 2001):
                    longer = row[:place] + [copying(size, signs)] + row[place:]
                    self.assertEqual(limit(in_row, longer), told if size == 2000 else 2000)
            self.assertEqual(limit(in_row, row + [copier(signs)] * 3 + [copying(2001, signs)]), 2000)

    def test_long_values_at_each_place(self):
        for others in ([], [SWAP], [NOTHING], [NOTHING, NO_OUTCOME], [SWAP, copier("ab"), NOTHING]):
            for place in range(len(others) + 1):
                for size in (2000, 2001):
                    row = others[:place] + [copying(size, "ab")] + others[place:]
                    self.assertEqual(limit(in_row, row), None if size == 2000 else 2000)

    def test_what_is_handed_in_may_be_changed(self):
        row = [SWAP, DOUBLE]
        told = in_row(row)
        row.clear()
        self.assertEqual(told, behind(SWAP, DOUBLE))


class PairsTest(unittest.TestCase):
    """Pairs that come to 400 and 401, and least forms of 60 and 61 states."""

    def test_pairs(self):
        self.assertIs(is_least(DEAF), True)
        for many, start in [(19, True), (20, False), (20, True)]:
            self.assertIs(is_least(turning(many, "ab", start=start)), True)
        everything = ((("", "", 0), ("", "", 0)), "")
        self.assertEqual(behind(turning(20, "ab"), DEAF), ("ab", "", (everything,)))
        self.assertEqual(len(behind(turning(19, "ab", start=True), DEAF)[2]), 2)
        for function in WITH_TWO:
            self.assertEqual(limit(function, turning(20, "ab", start=True), DEAF), 400)

    def test_pairs_that_are_not_met_do_not_count(self):
        # It does no "b", so the other one stays in its first state.
        one = ("ab", "", tuple(((("", "", (state + 1) % 60), ("", "", state)), "" if state else None)
                               for state in range(60)))
        self.assertIs(is_least(one), True)
        self.assertEqual(behind(one, DEAF), one)
        # Nor are those that no text leads to since the other one breaks off.
        breaks = ("ab", "", (((("a", "", 0), None), ""), *DEAF[2][1:]))
        self.assertEqual(len(behind(turning(20, "ab", start=True), breaks)[2]), 20)

    def test_pairs_behind_which_none_has_an_outcome_count(self):
        # The other one breaks off at each last of the one ahead of it.
        deaf = ("abc", "", tuple(((*moves, None), last) for moves, last in DEAF[2]))
        for many, start in [(20, False), (20, True)]:
            signs, first, states = turning(many, "abc", start=start)
            one = (signs, first, tuple((moves, last + "c") for moves, last in states))
            self.assertIs(is_least(one) and is_least(deaf), True)
            told = thrown(behind, one, deaf)
            self.assertEqual(told, 400 if start else ("abc", "", (((None, None, None), None),)))

    def test_states_of_the_least_form(self):
        for first, second, start, many in [(6, 10, False, 60), (6, 10, True, 61), (5, 12, False, 60), (7, 9, False, 63),
                                           (59, 1, True, 60), (20, 3, True, 61)]:
            one, other = turning(first, "abc", start=start), round_by_b(second)
            if many == 60:
                self.assertEqual(len(behind(one, other)[2]), 60)
            else:
                for function in WITH_TWO:
                    self.assertEqual(limit(function, one, other), 60)

    def test_one_behind_itself(self):
        # By "b" it stays where it is, and does what leads the other one on: all pairs are met.
        for many, told in [(7, None), (8, 60), (20, 60), (21, 400)]:
            one = ("ab", "", tuple(((("a", "", (state + 1) % many), ("a", "", state)), "b" if state else "")
                                   for state in range(many)))
            self.assertIs(is_least(one), True)
            self.assertEqual([limit(function, one) for function in ALONE], [told] * 5)


class WordsTest(unittest.TestCase):
    """Words of 1,999, 2,000 and 2,001 signs in what is returned, in what is only looked at, and on the way."""

    DOUBLED = ("ab", "", (((("aa", "", 0), ("b", "", 0)), ""),))

    def test_words_of_what_is_returned(self):
        for size in (1999, 2000, 2001):
            half, rest = size // 2, "b" * (size % 2)
            word = "a" * half + rest
            for one in [("ab", word, (((None, None), ""),)),
                        ("ab", "", (((None, (word, "", 0)), ""),)),
                        ("ab", "", (((None, ("", "", 1)), ""), ((None, None), word)))]:
                told = thrown(behind, one, self.DOUBLED)
                if size == 2001:
                    self.assertEqual(told, 2000)
                    self.assertEqual(limit(in_row, [one, self.DOUBLED]), 2000)
                    self.assertEqual(limit(change_places, one, self.DOUBLED), 2000)
                else:
                    self.assertIn("a" * (2 * half) + rest, words_of(told))

    def test_they_are_told_as_early_as_can_be(self):
        # The word of the second move is longer than 2,000 signs until the first one does a part of it.
        for size in (1999, 2000, 2001):
            many, more = divmod(2000 + size, 4)
            one = ("ab", "", (((("", "", 1), None), ""), ((("a" * many + "b" * more, "", 2), None), "a" * 500),
                              ((None, None), "")))
            told = thrown(in_row, [one, self.DOUBLED, self.DOUBLED])
            if size == 2001:
                self.assertEqual(told, 2000)
            else:
                self.assertEqual(told[2][0][0][0], ("a" * 2000, "", 1))
                self.assertEqual(told[2][1], ((("a" * (size - more) + "b" * more, "", 2), None), ""))

    def test_words_that_are_just_short_enough(self):
        # Four signs are done for each one. Behind each text the least form has done as much as it can with its words.
        four = ("ab", "", (((("aaaa", "", 0), ("b", "", 0)), ""),))
        for more in (0, 1):
            ends = (((None, None), ""),)
            one = ("ab", "", (((("", "", 1), ("a" * 500, "", 2)), None),
                              ((("a" * 1500 + "b" * more, "", 2), ("a" * 1000, "", 2)), None)) + ends)
            last = ("ab", "", (((("", "", 1), ("a" * 500, "", 2)), None),
                               ((None, ("a" * 1000, "", 2)), "a" * 1500 + "b" * more)) + ends)
            for expander in (one, last):
                told = thrown(behind, expander, four)
                if more:
                    self.assertEqual(told, 2000)
                else:
                    self.assertEqual(told[1:], ("a" * 2000, (
                        ((("a" * 2000, "", 1), ("", "", 2)), None),
                        ((("a" * 2000, "", 2), ("", "", 2)), None) if expander is one else
                        ((None, ("", "", 2)), "a" * 2000), ((None, None), ""))))

    def test_long_words_that_lead_nowhere(self):
        # The other one does 2,000 signs for each sign, and then comes to where it never ends.
        long = ("ab", "", (((("a" * 2000, "", 1), ("b", "", 0)), ""), ((("a" * 2000, "", 1), ("b", "", 2)), None),
                           ((None, ("a", "", 2)), "")))
        one = ("ab", "", (((("a" * 2000, "", 0), ("b", "", 0)), ""),))
        self.assertEqual(limit(behind, one, long), 2000)
        ends = ("ab", "", (long[2][0], ((("a" * 2000, "", 1), None), None)))
        self.assertEqual(behind(one, ends), ("ab", "", (((None, ("b", "", 0)), ""),)))
        both = ("ab", "", (((("a" * 2000, "", 0), ("a", "", 0)), ""),))
        self.assertEqual(limit(behind, both, both), 2000)

    def test_many_long_words(self):
        # Each of up to 400 pairs has words of four million signs: they are not put together.
        tracemalloc.start()
        for many in (20, 60):
            one = ("ab", "", tuple(((("ab" * 1000, "", (at + 1) % many), ("ba" * 1000, "", at)), "a" * at)
                                   for at in range(many)))
            self.assertIn(limit(behind, one, ("ab", "", one[2][::-1])), (400, 2000))
        self.assertLess(tracemalloc.get_traced_memory()[1], 10 ** 8)
        tracemalloc.stop()

    def test_least_forms_that_are_only_looked_at(self):
        # Only the least form would have a word of 2,001 signs; what is right may be told, too.
        one = ("ab", "a" * 1000, (((None, None), "a" * 1001),))
        lost = ("ab", "", (((("", "", 0), ("", "", 0)), "b"),))
        right = ("ab", "b", (((None, None), ""),))
        self.assertIn(thrown(behind, one, lost), (2000, right))
        self.assertIn(thrown(in_row, [one, lost]), (2000, right))
        self.assertEqual(thrown(behind, one, copier("ab")), 2000)
        fits = ("ab", "a" * 1000, (((None, None), "a" * 1000),))
        self.assertEqual(thrown(behind, fits, lost), right)
        self.assertEqual(thrown(behind, fits, copier("ab")), least(fits))

    def test_settled_raises_as_behind(self):
        # Only the least form of it behind itself has a longer word.
        for word, size in [("a" + "b" * 999, 1999), ("b" * 2000, 2000), ("a" + "b" * 1000, 2001)]:
            one = ("ab", "", ((((word, "", 0), ("b", "", 0)), ""),))
            self.assertEqual([limit(function, one) for function in ALONE], [2000 if size > 2000 else None] * 5)
            self.assertIs(is_least(one), True)

    def test_calls_with_long_values(self):
        for function in WITH_TWO:
            for one, other in [(of_size(2001), SWAP), (SWAP, of_size(2001)), (of_size(2001), of_size(2001))]:
                self.assertEqual(limit(function, one, other), 2000)
            self.assertIsNone(limit(function, of_size(2000), SWAP))
        for function in ALONE:
            self.assertEqual(limit(function, of_size(2001)), 2000)

    def test_calls_with_long_values_come_ahead_of_pairs(self):
        far = ((("a" * 1000, "b", 60), ("b" * 1001, "", 60)), None)
        one = turning(20, "ab", start=True)
        long = (one[0], one[1], one[2] + (tuple((tuple((w, b, 21) for w, b, _ in far[0]), None)),))
        self.assertTrue(is_expander(long))
        self.assertEqual(limit(behind, one, DEAF), 400)
        self.assertEqual(limit(behind, long, DEAF), 2000)


def words_of(expander):
    _, first, states = expander
    lasts = [last for _, last in states if last is not None]
    return [first] + lasts + [move[0] for moves, _ in states for move in moves if move is not None]


class ArgumentsTest(unittest.TestCase):
    def test_what_is_no_expander(self):
        for thing in NO_EXPANDERS:
            kept = copy.deepcopy(thing)
            with self.subTest(thing=thing):
                for function in WITH_TWO:
                    for one, other in [(thing, SWAP), (SWAP, thing), (thing, thing), (STUCK, thing), (thing, STUCK),
                                       (of_size(2001), thing)]:
                        self.assertRaises(NoExpander, function, one, other)
                for function in ALONE:
                    self.assertRaises(NoExpander, function, thing)
                self.assertEqual(thing, kept)

    def test_other_signs(self):
        part = copier("b")
        for function in WITH_TWO:
            for one, other in [(STUCK, SWAP), (SWAP, STUCK), (part, SWAP), (SWAP, part), (FOUR, SWAP), (TOWER, AHEAD),
                               (of_size(2001), STUCK), (STUCK, of_size(2001))]:
                self.assertRaises(Mismatch, function, one, other)

    def test_nothing_is_changed(self):
        for expander in EXPANDERS:
            kept = copy.deepcopy(expander)
            for function in ALONE:
                thrown(function, expander)
            self.assertEqual(expander, kept)


if __name__ == "__main__":
    unittest.main()
