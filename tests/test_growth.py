"""Point 11: the longest outcomes of a size, the rate, and papers for it."""

import copy
import random
import unittest
from fractions import Fraction

from rescans.calls import outcome
from rescans.errors import NoExpander, NoText
from rescans.growth import longest, rate, rate_paper, shows_rate
from plainly import drawn, outcomes, run_plain, run_values, texts
from samples import AHEAD, DOUBLE, EXPANDERS, FOUR, LOOP, NO_EXPANDERS, ODD, STUCK, SWAP, TOWER, limit, of_size

HALF = ("a", "", (((("", "", 1),), ""), ((("a", "", 0),), "")))
PAPER = ((1, 2), "", "aa", {0: 0, 1: -1})
WITH_EXPANDER = [lambda one: longest(one, 1), rate, rate_paper, lambda one: shows_rate(one, None)]


def drawn_ones(seed, many, *, most=4):
    """Drawn expanders, and their plain forms."""
    chance = random.Random(seed)
    for _ in range(many):
        signs = chance.choice(["a", "ab", "ab", "abc"])
        expander = drawn(chance, signs, chance.randint(1, most), most_done=chance.choice([1, 2, 4]), most_back=1,
                         gaps=chance.choice([0, 0.3, 0.5]), lasts=chance.choice([0.2, 0.6]))
        yield chance, expander, run_plain(expander, run_values(expander))


def live_of(form):
    return [state for state in range(len(form[2])) if outcomes(form, len(form[2]), state)]


def walk(form, live, state, text):
    """The number of signs that are done by a text from a state on by live states, and the state then; or None."""
    if state not in live:
        return None
    size = 0
    for sign in text:
        move = form[2][state][0][form[0].index(sign)]
        if move is None or move[2] not in live:
            return None
        size, state = size + len(move[0]), move[2]
    return size, state


def rate_by_rounds(form):
    """The greatest mean of the rounds with no more signs than there are states: others are made of these."""
    live = live_of(form)
    short = list(texts(form[0], len(form[2])))
    reached = {told[1] for text in short for told in [walk(form, live, 0, text)] if told is not None}
    best = None
    for state in reached:
        for text in short[1:]:
            told = walk(form, live, state, text)
            if told is not None and told[1] == state:
                mean = Fraction(told[0], len(text))
                best = mean if best is None or mean > best else best
    return best


def bounds_by_texts(form, mean, most):
    """The bounds by all texts up to a length."""
    live = live_of(form)
    found = {}
    for text in texts(form[0], most):
        told = walk(form, live, 0, text)
        if told is not None:
            bound = mean.denominator * (len(form[1]) + told[0]) - mean.numerator * len(text)
            found[told[1]] = max(bound, found.get(told[1], bound))
    return dict(sorted(found.items()))


def is_paper(form, mean, bounds, thing):
    """Point 11 word by word, for a tuple of four things of the right kinds."""
    told, lead, turn, given = thing
    live = live_of(form)
    if mean is None or told != (mean.numerator, mean.denominator) or list(given.items()) != list(bounds.items()):
        return False
    if len(lead) > 200 or not 1 <= len(turn) <= 200:
        return False
    begin = walk(form, live, 0, lead)
    end = None if begin is None else walk(form, live, begin[1], turn)
    return end is not None and end[1] == begin[1] and Fraction(end[0], len(turn)) == mean


class LongestTest(unittest.TestCase):
    def test_examples(self):
        self.assertEqual(longest(DOUBLE, 3), (6, "aaa"))
        self.assertEqual(longest(DOUBLE, 0), (0, ""))
        self.assertEqual(longest(SWAP, 3), (3, "aaa"))
        self.assertEqual(longest(HALF, 5), (2, "aaaaa"))
        self.assertEqual(longest(TOWER, 2), (36, "aa"))
        self.assertEqual(longest(AHEAD, 2), (3, "ab"))
        self.assertEqual(longest(AHEAD, 4), (5, "abaa"))
        for size in (0, 1, 200):
            self.assertIsNone(longest(STUCK, size))
        self.assertIsNone(longest(AHEAD, 1))
        self.assertIsNone(longest(FOUR, 0))

    def test_first_and_last_count(self):
        one = ("ab", "ab", (((("a", "", 0), ("", "", 1)), ""), ((None, None), "aaa")))
        self.assertEqual(longest(one, 1), (5, "b"))
        self.assertEqual(longest(one, 3), (7, "aab"))
        two = ("ab", "ab", (((("a", "", 0), ("", "", 1)), ""), ((None, None), "a")))
        self.assertEqual(longest(two, 3), (5, "aaa"))

    def test_lengths_beyond_2000(self):
        full = ("ab", "a" * 2000, (((("a" * 2000, "", 0), ("b" * 2000, "", 0)), "a" * 2000),))
        self.assertEqual(longest(full, 200), (2000 * 202, "a" * 200))
        self.assertEqual(longest(full, 0), (4000, ""))
        late = ("ab", "", (((("", "", 0), ("b" * 2000, "", 1)), ""), ((("a" * 2000, "", 1), None), "")))
        self.assertEqual(longest(late, 200), (2000 * 200, "b" + "a" * 199))

    def test_sizes(self):
        for thing in [one for one in ODD if isinstance(one, bool) or one not in (0, 1)] + [201, "1", "", (1,), [1]]:
            with self.subTest(thing=thing):
                kept = copy.deepcopy(thing)
                self.assertRaises(NoText, longest, DOUBLE, thing)
                self.assertRaises(NoText, longest, of_size(2001), thing)
                self.assertEqual(thing, kept)
        self.assertEqual(longest(DOUBLE, 200), (400, "a" * 200))
        self.assertEqual(longest(DOUBLE, 1), (2, "a"))

    def test_drawn_expanders_by_all_texts(self):
        found = {"some": 0, "none": 0}
        for _, expander, form in drawn_ones(61, 300):
            table = outcomes(form, 5)
            for size in range(6):
                words = [(len(word), text) for text, word in table.items() if len(text) == size]
                most = max(words, default=(0, ""))[0]
                right = min((text for length, text in words if length == most), default=None)
                told = None if right is None else (most, right)
                self.assertEqual(longest(expander, size), told, (expander, size))
                found["none" if told is None else "some"] += 1
        self.assertGreater(min(found.values()), 200)

    def test_long_texts_have_their_outcomes(self):
        for _, expander, _ in drawn_ones(62, 60):
            told = longest(expander, 200)
            if told is not None and told[0] <= 2000:
                self.assertEqual(len(outcome(expander, told[1])), told[0])


class RateTest(unittest.TestCase):
    def test_examples(self):
        for expander, told in [(DOUBLE, (2, 1)), (HALF, (1, 2)), (SWAP, (1, 1)), (LOOP, (1, 1)), (AHEAD, (1, 1)),
                               (TOWER, (18, 1)), (STUCK, None), (FOUR, None), (("a", "", (((None,), "a"),)), None)]:
            self.assertEqual(rate(expander), told, expander)

    def test_rates_of_zero(self):
        none = ("a", "aa", (((("", "", 0),), "aa"),))
        self.assertEqual(rate(none), (0, 1))
        self.assertEqual(rate_paper(none)[0], (0, 1))
        self.assertEqual(rate_paper(none)[3], {0: 2})
        turns = ("a", "", (((("aa", "", 1),), ""), ((("", "", 2),), None), ((("", "", 1),), "a")))
        self.assertEqual((rate(turns), rate_paper(turns)[3]), ((0, 1), {0: 0, 1: 2, 2: 2}))
        self.assertIs(shows_rate(turns, ((0, 1), "a", "aa", {0: 0, 1: 2, 2: 2})), True)
        self.assertIs(shows_rate(turns, ((0, 2), "a", "aa", {0: 0, 1: 2, 2: 2})), False)

    def test_what_does_not_count(self):
        # A round of states that are not live, and one of a state that is not reached, do more.
        dead = ("ab", "", (((("a", "", 0), ("bb", "", 1)), ""), ((("bbb", "", 1), None), None)))
        self.assertEqual((rate(dead), rate_paper(dead)[3]), ((1, 1), {0: 0}))
        far = ("ab", "", (((("a", "", 0), None), ""), ((("bbb", "", 1), ("bbb", "", 0)), "")))
        self.assertEqual((rate(far), rate_paper(far)[3]), ((1, 1), {0: 0}))
        none = ("ab", "", (((("a", "", 0), ("b", "", 1)), None), ((("a", "", 0), None), None)))
        self.assertEqual((rate(none), rate_paper(none), shows_rate(none, ((1, 1), "", "a", {0: 0}))),
                         (None, None, False))

    def test_lowest_terms(self):
        one = ("a", "", (((("aaa", "", 1),), ""), ((("aaa", "", 2),), ""), ((("", "", 3),), ""), ((("", "", 0),), "")))
        self.assertEqual(rate(one), (3, 2))
        self.assertEqual(rate_paper(one)[3], {0: 0, 1: 3, 2: 6, 3: 3})
        whole = ("a", "", (((("aaaa", "", 1),), ""), ((("", "", 0),), "")))
        self.assertEqual(rate(whole), (2, 1))

    def test_rounds_of_many_states(self):
        for many in (59, 60):
            states = tuple(((("a" * at, "", (at + 1) % many), ("", "", at)), "") for at in range(many))
            one = ("ab", "ba", states)
            mean = Fraction(many - 1, 2)
            self.assertEqual(rate(one), (mean.numerator, mean.denominator))
            paper = rate_paper(one)
            self.assertIs(shows_rate(one, paper), True)
            self.assertEqual(len(paper[2]), many)
            right = {at: mean.denominator * (2 + at * (at - 1) // 2) - mean.numerator * at for at in range(many)}
            self.assertEqual(paper[3], right)
            for turn in ("a" * many, "a" * (2 * many)):
                self.assertIs(shows_rate(one, (paper[0], "", turn, right)), True)
                self.assertIs(shows_rate(one, (paper[0], "a" * 59, turn, right)), True)
                self.assertIs(shows_rate(one, (paper[0], "", turn + "b", right)), False)

    def test_a_lead_of_many_states(self):
        row = tuple(((("aa", "", at + 1),), None) for at in range(59)) + (((("a", "", 59),), ""),)
        paper = rate_paper(("a", "a", row))
        self.assertEqual(paper, ((1, 1), "a" * 59, "a", {at: at + 1 for at in range(60)}))
        for lead, turn, right in [(200, 1, True), (201, 1, False), (59, 200, True), (59, 201, False), (58, 1, False),
                                  (59, 0, False), (200, 200, True)]:
            thing = ((1, 1), "a" * lead, "a" * turn, paper[3])
            self.assertIs(shows_rate(("a", "a", row), thing), right, (lead, turn))

    def test_the_greatest_words(self):
        full = "ab" * 1000
        states = tuple((((full, "", (at + 1) % 60), ("", "", 0)), "") for at in range(60))
        self.assertEqual(rate(("ab", full, states)), (2000, 1))
        self.assertEqual(rate_paper(("ab", full, states))[3], {at: 2000 for at in range(60)})

    def test_drawn_expanders_by_all_rounds(self):
        found = {}
        for _, expander, form in drawn_ones(63, 400):
            kept = copy.deepcopy(expander)
            mean = rate_by_rounds(form)
            paper = rate_paper(expander)
            if mean is None:
                self.assertEqual((rate(expander), paper), (None, None))
                self.assertIs(shows_rate(expander, ((0, 1), "", form[0][0], {0: 0})), False)
            else:
                self.assertEqual(rate(expander), (mean.numerator, mean.denominator), expander)
                # No bound needs a text that comes to one state twice.
                bounds = bounds_by_texts(form, mean, len(form[2]))
                self.assertTrue(is_paper(form, mean, bounds, paper), (expander, paper))
                self.assertIs(shows_rate(expander, paper), True)
            self.assertEqual(expander, kept)
            found[mean] = True
        self.assertGreater(len(found), 15)

    def test_papers_bent_in_a_part(self):
        found = {True: 0, False: 0}
        for chance, expander, form in drawn_ones(64, 300):
            paper = rate_paper(expander)
            if paper is None:
                continue
            mean = Fraction(*paper[0])
            bounds = bounds_by_texts(form, mean, len(form[2]))
            for _ in range(8):
                bent = bend(chance, form[0], paper)
                right = is_paper(form, mean, bounds, bent)
                self.assertIs(shows_rate(expander, bent), right, (expander, bent))
                found[right] += 1
        self.assertGreater(min(found.values()), 200)


def bend(chance, signs, paper):
    """A paper with another fraction, lead, round or bound, or some of these."""
    told, lead, turn, bounds = paper
    kind = chance.choice(["rate", "lead", "turn", "twice", "shifted", "bound", "less", "more", "order"])
    bounds = dict(bounds)
    key = chance.choice(list(bounds))
    text = "".join(chance.choice(signs) for _ in range(chance.randint(0, 3)))
    if kind == "rate":
        told = chance.choice([(told[0] * 2, told[1] * 2), (told[0] + 1, told[1]), (told[1], told[0]), (0, 1), told])
    elif kind == "lead":
        lead = chance.choice([text, lead + text])
    elif kind == "turn":
        turn = chance.choice([text, turn + text, ""])
    elif kind == "twice":
        lead, turn = chance.choice([(lead + turn, turn), (lead, turn * 2)])
    elif kind == "shifted":
        lead, turn = lead + turn[0], turn[1:] + turn[0]
    elif kind == "bound":
        bounds[key] += chance.choice([-1, 1])
    elif kind == "less":
        del bounds[key]
    elif kind == "more":
        bounds[max(bounds) + 1] = 0
    else:
        bounds[key] = bounds.pop(key)
    return told, lead, turn, bounds


class PaperTest(unittest.TestCase):
    def test_objects_of_any_form(self):
        things = ODD + [
            list(PAPER), PAPER + (None,), PAPER[:3], PAPER[::-1], {0: PAPER}, "abcd",
            ([1, 2], "", "aa", PAPER[3]), ((1, 2, 0), "", "aa", PAPER[3]), ((1,), "", "aa", PAPER[3]),
            ((True, 2), "", "aa", PAPER[3]), (None, "", "aa", PAPER[3]), ("12", "", "aa", PAPER[3]),
            ((2, 4), "", "aa", PAPER[3]), ((-1, -2), "", "aa", PAPER[3]), (("1", "2"), "", "aa", PAPER[3]),
            ((1, 2), None, "aa", PAPER[3]), ((1, 2), 0, "aa", PAPER[3]), ((1, 2), "b", "aa", PAPER[3]),
            ((1, 2), ("",), "aa", PAPER[3]), ((1, 2), "", None, PAPER[3]), ((1, 2), "", "", PAPER[3]),
            ((1, 2), "", ["a", "a"], PAPER[3]), ((1, 2), "", "a", PAPER[3]), ((1, 2), "", "ab", PAPER[3]),
            ((1, 2), "", "aaa", PAPER[3]), ((1, 2), "a" * 201, "aa", PAPER[3]), ((1, 2), "", "a" * 202, PAPER[3]),
            ((1, 2), "", "aa", None), ((1, 2), "", "aa", {}), ((1, 2), "", "aa", {0: 0}), ((1, 2), "", "aa", {1: -1}),
            ((1, 2), "", "aa", {1: -1, 0: 0}), ((1, 2), "", "aa", {False: 0, 1: -1}),
            ((1, 2), "", "aa", {0: 0, True: -1}), ((1, 2), "", "aa", {0: False, 1: -1}),
            ((1, 2), "", "aa", {0: 0, 1: -1, 2: 0}), ((1, 2), "", "aa", {0: 0, 1: 0}),
            ((1, 2), "", "aa", {0: 0, 1: "-1"}), ((1, 2), "", "aa", {0: 0, 1: [-1]}),
            ((1, 2), "", "aa", {0: 0, "1": -1}), ((1, 2), "", "aa", {0: 0, (1,): -1}),
            ((1, 2), "", "aa", [(0, 0), (1, -1)]), ((1, 2), "", "aa", [0, -1]), ((1, 2), "", "aa", ((0, 0), (1, -1))),
            ((1, 2), "", "aa", {0: 0, 1: None}), ((1, 2), "", "aa", {None: 0, 1: -1}),
        ]
        for thing in things:
            with self.subTest(thing=thing):
                kept = copy.deepcopy(thing)
                self.assertIs(shows_rate(HALF, thing), False)
                self.assertEqual(repr(thing), repr(kept))
                self.assertIs(shows_rate(STUCK, thing), False)
        for lead, turn in [("", "aa"), ("a", "aa"), ("a" * 200, "a" * 200), ("aa", "aaaa")]:
            self.assertIs(shows_rate(HALF, ((1, 2), lead, turn, dict(PAPER[3]))), True)

    def test_a_lead_by_states_that_are_not_live(self):
        one = ("ab", "", (((("a", "", 0), ("", "", 1)), ""), ((("a", "", 1), None), None)))
        self.assertIs(shows_rate(one, ((1, 1), "", "a", {0: 0})), True)
        self.assertIs(shows_rate(one, ((1, 1), "b", "a", {0: 0})), False)
        self.assertIs(shows_rate(one, ((1, 1), "", "a", {0: 0, 1: -1})), False)

    def test_a_true_that_is_one(self):
        one = ("a", "", (((("a", "", 0),), ""),))
        self.assertIs(shows_rate(one, ((1, 1), "", "a", {0: 0})), True)
        for thing in [((True, 1), "", "a", {0: 0}), ((1, True), "", "a", {0: 0}), ((1, 1), "", "a", {0: False})]:
            self.assertIs(shows_rate(one, thing), False)

    def test_what_is_returned_is_new(self):
        told = rate_paper(HALF)
        kept = copy.deepcopy(told)
        told[3].clear()
        self.assertEqual(rate_paper(HALF), kept)


class ArgumentsTest(unittest.TestCase):
    def test_what_is_no_expander(self):
        for thing in NO_EXPANDERS:
            with self.subTest(thing=thing):
                for function in WITH_EXPANDER:
                    self.assertRaises(NoExpander, function, thing)
                self.assertRaises(NoExpander, longest, thing, None)

    def test_calls_with_long_values(self):
        for function in WITH_EXPANDER:
            self.assertEqual(limit(function, of_size(2001)), 2000)
            self.assertIsNone(limit(function, of_size(2000)))

    def test_nothing_is_changed(self):
        for expander in EXPANDERS:
            kept = copy.deepcopy(expander)
            for function in WITH_EXPANDER:
                function(expander)
            self.assertEqual(expander, kept)


if __name__ == "__main__":
    unittest.main()
