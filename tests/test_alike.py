"""Points 7 and 8: whether two expanders are alike, papers that they are, and where they are apart."""

import copy
import random
import unittest

from rescans.alike import ahead, alike, apart, shows_alike
from rescans.calls import plain
from rescans.errors import Mismatch, NoExpander
from rescans.expanders import copier, is_expander
from rescans.least import least
from plainly import drawn, first_apart, longest_begin, otherwise, outcomes, run_plain, run_values
from samples import (
    AHEAD, DOUBLE, EXPANDERS, FOUR, LOOP, NO_EXPANDERS, ODD, STUCK, SWAP, TOWER, limit, of_size, places, replaced,
)

LATE = ("ab", "", (((("", "", 1), None), ""), ((("a", "", 1), None), "a")))
EARLY = ("ab", "", (((("a", "", 0), None), ""),))
PAPER = {(0, 0): ("", ""), (1, 0): ("", "a")}
NOTHING = ("ab", "ab", (((("b", "", 0), None), None),))


def shows_none(one, other):
    return shows_alike(one, other, {})


WITH_TWO = [alike, ahead, shows_none, apart]


def left_of(one, other):
    many = len(longest_begin([one, other]))
    return one[many:], other[many:]


def is_paper(one, other, thing):
    """Point 8 word by word, for two plain expanders and a dict of the right form, whatever it holds."""
    lives = [[state for state in range(len(form[2])) if outcomes(form, len(form[2]), state)] for form in (one, other)]
    if 0 not in lives[0] and 0 not in lives[1]:
        return thing == {}
    if 0 not in lives[0] or 0 not in lives[1] or list(thing) != sorted(thing) or (0, 0) not in thing:
        return False
    if thing[0, 0] != left_of(one[1], other[1]):
        return False
    met = {(0, 0)}
    row = [(0, 0)]
    for pair in row:
        words = thing[pair]
        if words[0] and words[1]:
            return False
        lasts = one[2][pair[0]][1], other[2][pair[1]][1]
        if (lasts[0] is None) != (lasts[1] is None):
            return False
        if lasts[0] is not None and words[0] + lasts[0] != words[1] + lasts[1]:
            return False
        for moves in zip(one[2][pair[0]][0], other[2][pair[1]][0]):
            there = [move is not None and move[2] in live for move, live in zip(moves, lives)]
            if there[0] != there[1]:
                return False
            if there[0]:
                following = moves[0][2], moves[1][2]
                if thing.get(following) != left_of(words[0] + moves[0][0], words[1] + moves[1][0]):
                    return False
                if following not in met:
                    met.add(following)
                    row.append(following)
    return met == set(thing)


def one_thing_changed(chance, expander):
    """An expander with another word, goal or None at one place."""
    while True:
        place = chance.choice(places(expander)[1:])
        things = [None, "", *expander[0], expander[0][-1] * 2, 0, chance.randrange(len(expander[2]))]
        changed = replaced(expander, place, chance.choice(things))
        if changed != expander and changed[0] == expander[0] and is_expander(changed):
            return changed


def drawn_pairs(seed, many):
    """Expanders of up to four states: some told otherwise, some with one thing changed, some drawn anew."""
    chance = random.Random(seed)
    for _ in range(many):
        signs = chance.choice(["a", "a", "ab", "abc"])
        states = chance.randint(1, {1: 4, 2: 2, 3: 1}[len(signs)])
        one = drawn(chance, signs, states, most_done=chance.choice([1, 2, 3]), gaps=chance.choice([0, 0.2]),
                    lasts=chance.choice([0.2, 0.6]))
        form = run_plain(one, run_values(one))
        kind = chance.choice(["otherwise", "otherwise", "changed", "anew"])
        if kind == "anew":
            other = drawn(chance, signs, states, most_done=1, gaps=0.1)
        elif kind == "changed":
            other = one_thing_changed(chance, chance.choice([one, form]))
        else:
            other = otherwise(chance, form, chance.randint(0, 4))
        yield chance, kind, one, other


class AlikeTest(unittest.TestCase):
    def test_examples(self):
        self.assertIs(alike(LATE, copier("ab")), False)
        self.assertIs(alike(LATE, EARLY), True)
        self.assertIs(alike(STUCK, ("a", "", (((("aa", "", 0),), None),))), True)
        self.assertIs(alike(NOTHING, EARLY), False)
        self.assertIs(alike(EARLY, NOTHING), False)
        for expander in EXPANDERS:
            for other in (expander, plain(expander), least(expander)):
                self.assertIs(alike(expander, other), True)
                self.assertIs(alike(other, expander), True)

    def test_outcomes_that_differ_in_a_last_alone(self):
        self.assertIs(alike(("a", "a", (((None,), ""),)), ("a", "", (((None,), "a"),))), True)
        self.assertIs(alike(("a", "a", (((None,), ""),)), ("a", "", (((None,), "aa"),))), False)
        self.assertIs(alike(("a", "a", (((None,), ""),)), ("a", "", (((None,), None),))), False)

    def test_sixty_states(self):
        one = tuple(((("a", "", (at + 1) % 60), None), "b") for at in range(60))
        other = tuple(((("a", "", (at + 1) % 59), None), "b") for at in range(59))
        plain_one, plain_other = ("ab", "", one), ("ab", "", other)
        self.assertIs(alike(plain_one, plain_other), True)
        paper = ahead(plain_one, plain_other)
        self.assertEqual(list(paper), [(state, goal) for state in range(60) for goal in range(59)])
        self.assertEqual(set(paper.values()), {("", "")})
        self.assertIs(shows_alike(plain_one, plain_other, paper), True)
        changed = ("ab", "", one[:59] + ((one[59][0], "ab"),))
        self.assertEqual(apart(changed, plain_other), "a" * 59)
        self.assertIsNone(ahead(changed, plain_other))
        del paper[59, 58]
        self.assertIs(shows_alike(plain_one, plain_other, paper), False)


class DrawnTest(unittest.TestCase):
    def test_drawn_pairs_by_all_texts(self):
        counts = {}
        for _, kind, one, other in drawn_pairs(31, 500):
            kept = copy.deepcopy((one, other))
            forms = [run_plain(each, run_values(each)) for each in (one, other)]
            # Two that are not alike are apart at a text of fewer than two signs for each of their states.
            most = min(2 * (len(one[2]) + len(other[2])) - 1, {1: 40, 2: 13, 3: 8}[len(one[0])])
            text = first_apart(outcomes(forms[0], most), outcomes(forms[1], most))
            told = alike(one, other)
            if text is not None or most == 2 * (len(one[2]) + len(other[2])) - 1:
                self.assertIs(told, text is None, (one, other))
                self.assertEqual(apart(one, other), text, (one, other))
            if kind == "otherwise":
                self.assertIs(told, True, (one, other))
            self.assertIs(alike(other, one), told)
            self.assertIs(least(one) == least(other), told)
            self.assertEqual(apart(other, one), apart(one, other))
            paper = ahead(one, other)
            self.assertIs(paper is not None, told)
            if told:
                self.assertEqual(list(paper), sorted(paper))
                self.assertTrue(is_paper(*forms, paper), (one, other, paper))
                self.assertIs(shows_alike(one, other, paper), True)
                turned = {(t, s): paper[s, t][::-1] for t, s in sorted((t, s) for s, t in paper)}
                self.assertEqual(ahead(other, one), turned)
            else:
                self.assertIs(shows_alike(one, other, {}), False)
                self.assertIs(shows_alike(one, other, {(0, 0): ("", "")}), False)
            self.assertEqual((one, other), kept)
            counts[kind, told] = counts.get((kind, told), 0) + 1
        self.assertGreater(counts["otherwise", True], 100)
        self.assertGreater(counts["changed", False], 60)
        self.assertGreater(counts["changed", True], 10)
        self.assertGreater(counts["anew", False], 60)

    def test_papers_bent_in_a_part(self):
        found = 0
        for chance, _, one, other in drawn_pairs(32, 300):
            paper = ahead(one, other)
            forms = [run_plain(each, run_values(each)) for each in (one, other)]
            for _ in range(6):
                bent = dict(paper or {})
                for _ in range(chance.randint(1, 2)):
                    bent = bend(chance, one, other, bent)
                right = is_paper(*forms, bent)
                self.assertIs(right, bent == paper and list(bent) == list(paper))
                self.assertIs(shows_alike(one, other, bent), right, (one, other, bent))
                found += paper is not None
        self.assertGreater(found, 500)


def bend(chance, one, other, paper):
    """A paper with a key more or less, other words, or other keys ahead."""
    kind = chance.choice(["drop", "add", "words", "order"])
    bent = dict(paper)
    key = chance.choice(list(bent)) if bent else None
    if kind == "add" or key is None:
        bent[chance.randrange(len(one[2])), chance.randrange(len(other[2]))] = chance.choice(
            [("", ""), (one[0][0], ""), ("", one[0][-1] * 2)])
        return dict(sorted(bent.items()))
    if kind == "drop":
        del bent[key]
    elif kind == "words":
        words = bent[key]
        bent[key] = chance.choice([words[::-1], (words[0] + one[0][0], words[1]), ("", ""), (words[0], words[1][1:]),
                                   (one[0][-1] + words[0], one[0][-1] + words[1])])
    else:
        bent[key] = bent.pop(key)
    return bent


class PaperTest(unittest.TestCase):
    def test_papers(self):
        self.assertEqual(ahead(LATE, EARLY), PAPER)
        self.assertEqual(ahead(EARLY, LATE), {(0, 0): ("", ""), (0, 1): ("a", "")})
        self.assertIsNone(ahead(LATE, copier("ab")))
        self.assertEqual(ahead(DOUBLE, DOUBLE), {(0, 0): ("", "")})
        self.assertEqual(ahead(("a", "ab"[:1], (((None,), ""),)), ("a", "", (((None,), "a"),))), {(0, 0): ("a", "")})

    def test_state_zero_that_is_not_live(self):
        other = ("ab", "", ((((None, None), None)), ((("a", "", 1), None), "")))
        for one in (NOTHING, other):
            for two in (NOTHING, other):
                self.assertEqual(ahead(one, two), {})
                self.assertIs(shows_alike(one, two, {}), True)
                self.assertIs(shows_alike(one, two, {(0, 0): ("", "")}), False)
                self.assertIsNone(apart(one, two))
            self.assertIsNone(ahead(one, EARLY))
            self.assertIsNone(ahead(EARLY, one))
            self.assertIs(shows_alike(one, EARLY, {}), False)
            self.assertIs(shows_alike(EARLY, one, {}), False)
            self.assertIs(shows_alike(one, EARLY, {(0, 0): ("", "")}), False)
            self.assertEqual(apart(one, EARLY), "")

    def test_states_that_are_not_live_are_no_keys(self):
        dead = ("ab", "", (((("a", "", 0), ("b", "", 1)), ""), ((("", "", 1), ("", "", 1)), None)))
        self.assertEqual(ahead(dead, EARLY), {(0, 0): ("", "")})
        self.assertEqual(ahead(dead, dead), {(0, 0): ("", "")})
        self.assertIs(shows_alike(dead, EARLY, {(0, 0): ("", "")}), True)
        self.assertIs(shows_alike(dead, dead, {(0, 0): ("", ""), (1, 1): ("", "")}), False)

    def test_objects_of_any_form(self):
        things = ODD + [
            {}, {(0, 0): ("", "")}, {(1, 0): ("", "a")}, {(1, 0): ("", "a"), (0, 0): ("", "")},
            {(False, 0): ("", ""), (1, 0): ("", "a")}, {(0, 0): ("", ""), (True, 0): ("", "a")},
            {(0, False): ("", ""), (1, 0): ("", "a")}, {(0, 0): ["", ""], (1, 0): ("", "a")},
            {(0, 0): ("", ""), (1, 0): ["", "a"]}, {(0, 0): ("", ""), (1, 0): ("", "a", "")},
            {(0, 0): ("", ""), (1, 0): ("",)}, {(0, 0): ("", ""), (1, 0): None}, {(0, 0): ("", ""), (1, 0): ("", None)},
            {(0, 0): ("", ""), (1, 0): ("a", "aa")}, {(0, 0): ("a", "a"), (1, 0): ("", "a")},
            {(0, 0): ("", ""), (1, 0): ("a", "")}, {(0, 0): ("", ""), (1, 0): ("", "b")},
            {(0, 0): ("", ""), (1, 0): ("", "a"), (1, 1): ("", "")}, {(0, 0): ("", ""), (1, 0): ("", "a"), "a": 0},
            {(0, 0): ("", ""), (1, 0): ("", "a"), None: None}, {(0, 0): ("", ""), (1, 0): ("", "a"), (0,): ("", "")},
            {(0, 0): ("", ""), (1, 0): ("", "a"), (2, 0): ("", "")},
            {(0, 0): ("", ""), (1, 0): ("", "a"), (-1, 0): ("", "")},
            {(0, 0): ("", ""), (1, 0, 0): ("", "a")}, {"00": ("", ""), "10": ("", "a")},
            {0: {0: ("", "")}, 1: {0: ("", "a")}},
            [((0, 0), ("", "")), ((1, 0), ("", "a"))], tuple(PAPER.items()), [PAPER], list(PAPER),
            {(0, 0): ("", ""), (1, 0): (None, "a")}, {(0, 0): ("", ""), (1, 0): (0, "a")},
            {(0, 0): ("", ""), (1, 0): (True, None)}, {(0, 0): (0, 0), (1, 0): ("", "a")},
            {(0, 0): ("", ""), (1, 0): (("",), "a")}, {(0, 0): ("", ""), (1, 0): ("", ("a",))},
            {(0, 0): ("", ""), (1, 0): ("c", "ca")}, {(0, 0): ("", ""), ((1, 0), 0): ("", "a")},
            {(0, 0): ("", ""), (1, 0): ("", "a"), (0, 1): ([], {})},
            {(0, 0): ("", ""), (1, 0): ("", "a"), (1, None): ("", "")},
        ]
        for thing in things:
            with self.subTest(thing=thing):
                kept = copy.deepcopy(thing)
                self.assertIs(shows_alike(LATE, EARLY, thing), False)
                self.assertEqual(thing, kept)
                self.assertEqual(str(thing), str(kept))
        self.assertIs(shows_alike(LATE, EARLY, dict(PAPER)), True)

    def test_what_is_returned_is_new(self):
        told = ahead(LATE, EARLY)
        told[0, 0] = "changed"
        told.clear()
        self.assertEqual(ahead(LATE, EARLY), PAPER)
        told = ahead(NOTHING, NOTHING)
        told[0, 0] = ("", "")
        self.assertEqual(ahead(NOTHING, NOTHING), {})


class ApartTest(unittest.TestCase):
    def test_texts(self):
        self.assertEqual(apart(LATE, copier("ab")), "b")
        self.assertEqual(apart(SWAP, copier("ab")), "a")
        self.assertEqual(apart(DOUBLE, SWAP), "a")
        self.assertEqual(apart(EARLY, NOTHING), "")
        self.assertIsNone(apart(LATE, EARLY))
        self.assertEqual(apart(LOOP, copier("ab")), "a")

    def test_the_first_text_is_not_the_one_that_is_met_first(self):
        # Behind a the outcomes can not be the same any more, but b is the first text with an outcome.
        one = ("ab", "", (((("a", "", 1), ("a", "", 2)), None), ((None, ("", "", 3)), None), ((None, None), ""),
                          ((None, None), "")))
        other = ("ab", "", (((("b", "", 1), ("b", "", 2)), None),) + one[2][1:])
        self.assertEqual(apart(one, other), "b")
        same = ("ab", "", (((("b", "", 1), ("a", "", 2)), None),) + one[2][1:])
        self.assertEqual(apart(one, same), "ab")

    def test_what_is_left_is_made_up_for(self):
        # In front of the end the one is a sign ahead, and then another one too many.
        one = ("ab", "", (((("aa", "", 1), ("a", "", 1)), None), ((None, ("", "", 2)), None), ((None, None), "")))
        other = ("ab", "", (((("a", "", 1), ("", "", 1)), None), ((None, ("a", "", 2)), None), ((None, None), "")))
        self.assertIsNone(apart(one, other))
        other = ("ab", "", (((("a", "", 1), ("a", "", 1)), None), ((None, ("a", "", 2)), None), ((None, None), "")))
        self.assertEqual(apart(one, other), "bb")

    def test_one_pair_with_two_kinds_of_words_left(self):
        # The texts aa and ab come to one pair of states; behind it aab is right, and abb is apart.
        one = ("ab", "", (((("", "", 1), None), None), ((("a", "", 2), ("b", "", 2)), None),
                          ((None, ("a", "", 3)), None), ((None, None), "")))
        other = ("ab", "", (((("", "", 1), None), None), ((("", "", 2), ("", "", 2)), None),
                            ((None, ("aa", "", 3)), None), ((None, None), "")))
        self.assertEqual(apart(one, other), "abb")
        other = ("ab", "", other[2][:2] + (((None, ("ba", "", 3)), None), ((None, None), "")))
        self.assertEqual(apart(one, other), "aab")

    def test_a_long_first_text(self):
        # Two rounds of 60 and 59 states with lasts that agree as long as any such two rounds can.
        sames = list(range(119))

        def same_as(at):
            while sames[at] != at:
                at = sames[at]
            return at
        for turn in range(117):
            sames[same_as(turn % 60)] = same_as(60 + turn % 59)
        kinds = [same_as(at) == same_as(0) for at in range(119)]
        for lasts in ({True: "a", False: None}, {True: None, False: ""}, {True: "a", False: "b"}):
            one = tuple(((("", "", (at + 1) % 60), None), lasts[kinds[at]]) for at in range(60))
            other = tuple(((("", "", (at + 1) % 59), None), lasts[kinds[60 + at]]) for at in range(59))
            self.assertEqual(apart(("ab", "", one), ("ab", "", other)), "a" * 117)

    def test_a_first_text_behind_a_whole_round(self):
        # Both end in state 59 alone, and do other words only when they go on from there.
        one = tuple(((("ab" if at == 30 else "", "", (at + 1) % 60), None), "" if at == 59 else None)
                    for at in range(60))
        other = one[:59] + (((("a" * 2000, "", 0), None), ""),)
        self.assertEqual(apart(("ab", "", one), ("ab", "", other)), "a" * 119)
        self.assertIsNone(apart(("ab", "", one), ("ab", "", one)))

    def test_many_texts_that_are_not_apart(self):
        # There are more than 3 ** 30 texts that are no longer than the first one they are apart at, but few pairs.
        chance = random.Random(34)
        row = tuple(((None, None, None, ("", "", at + 1)), None) for at in range(30, 59)) + (((None,) * 4, ""),)
        forms = []
        for word in ("abc" * 600, ""):
            mixed = tuple(((*((word, "", chance.randrange(30)) for _ in "abc"), ("", "", 30)), None) for _ in range(30))
            forms.append(("abcd", "", mixed + row))
        self.assertEqual(apart(*forms), "a" + "d" * 30)

    def test_many_words_that_are_left(self):
        # Each text of a and b leaves its own word, up to the row of c that ends.
        row = tuple(((None, None, ("", "", at + 1)), None) for at in range(1, 40)) + (((None,) * 3, ""),)
        one = ("abc", "", (((("a", "", 0), ("b", "", 0), ("", "", 1)), None),) + row)
        other = ("abc", "", (((("", "", 0), ("", "", 0), ("", "", 1)), None),) + row)
        self.assertEqual(apart(one, other), "a" + "c" * 40)
        self.assertEqual(apart(("abc", "a", one[2]), ("abc", "b", other[2])), "c" * 40)

    def test_four_signs_and_sixty_states(self):
        chance = random.Random(33)
        for _ in range(6):
            one = plain(drawn(chance, "abcd", 60, most_back=0, most_done=3, gaps=0.1, lasts=0.9))
            other = plain(one_thing_changed(chance, one))
            text = apart(one, other)
            self.assertIs(alike(one, other), text is None)
            if text is not None and len(text) < 6:
                self.assertEqual(text, first_apart(outcomes(one, len(text)), outcomes(other, len(text))))


class LimitTest(unittest.TestCase):
    def test_calls_with_long_values(self):
        far = (((None, None), None),) + tuple(
            (tuple((word, back, 1) for word, back, _ in moves), last) for moves, last in of_size(2001)[2])
        for function in WITH_TWO:
            for long in (of_size(2001), ("ab", "", far)):
                self.assertEqual(limit(function, long, SWAP), 2000)
                self.assertEqual(limit(function, SWAP, long), 2000)
                self.assertEqual(limit(function, long, long), 2000)
            self.assertIsNone(limit(function, of_size(2000), SWAP))

    def test_words_of_papers(self):
        for size in (1999, 2000, 2001):
            # The one does all its words ahead; the other one does one sign in the middle, and the rest at its end.
            one = ("a", "a" * 1000, (((("a" * (size - 1000), "", 1),), None), ((("", "", 2),), None), ((None,), "")))
            other = ("a", "", (((("", "", 1),), None), ((("a", "", 2),), None), ((None,), "a" * (size - 1))))
            right = {(0, 0): ("a" * 1000, ""), (1, 1): ("a" * size, ""), (2, 2): ("a" * (size - 1), "")}
            if size <= 2000:
                self.assertEqual(ahead(one, other), right)
            else:
                self.assertEqual(limit(ahead, one, other), 2000)
                self.assertEqual(limit(ahead, other, one), 2000)
            # What is not made is not limited.
            self.assertIs(alike(one, other), True)
            self.assertIsNone(apart(one, other))
            self.assertIs(shows_alike(one, other, right), True)
            self.assertIs(shows_alike(one, other, {(0, 0): ("a" * 1000, "")}), False)
            self.assertIs(shows_alike(one, other, {}), False)
            changed = other[:2] + (other[2][:-1] + (((None,), "a" * 1500),),)
            self.assertIsNone(ahead(one, changed))
            self.assertEqual(apart(one, changed), "a" * (len(one[2]) - 1))

    def test_long_words_on_the_way(self):
        row = tuple(((("ab" * 1000, "", at + 1), None), None) for at in range(59))
        none = tuple(((("", "", at + 1), None), None) for at in range(59))
        one, other = ("ab", "", row + (((None, None), ""),)), ("ab", "", none + (((None, None), ""),))
        self.assertIs(alike(one, other), False)
        self.assertIsNone(ahead(one, other))
        self.assertEqual(apart(one, other), "a" * 59)
        late = ("ab", "ab" * 1000, row[:58] + (((("", "", 59), None), None), ((None, None), "")))
        self.assertIs(alike(one, late), True)
        self.assertEqual(set(ahead(one, late).values()), {("", "ab" * 1000), ("", "")})

    def test_least_forms_that_would_have_longer_words(self):
        one = ("a", "a" * 2000, (((None,), "a"),))
        other = ("a", "a", (((None,), "a" * 2000),))
        self.assertIs(alike(one, other), True)
        self.assertEqual(ahead(one, other), {(0, 0): ("a" * 1999, "")})
        self.assertIsNone(apart(one, other))
        self.assertEqual(apart(one, ("a", "a", (((None,), "a" * 1999),))), "")


class ArgumentsTest(unittest.TestCase):
    def test_what_is_no_expander(self):
        for thing in NO_EXPANDERS:
            for function in WITH_TWO:
                kept = copy.deepcopy(thing)
                with self.subTest(thing=thing, function=function.__name__):
                    for one, other in [(thing, DOUBLE), (DOUBLE, thing), (thing, thing), (STUCK, thing), (thing, STUCK),
                                       (thing, of_size(2001))]:
                        self.assertRaises(NoExpander, function, one, other)
                    self.assertEqual(thing, kept)
            self.assertRaises(NoExpander, shows_alike, thing, DOUBLE, thing)

    def test_other_signs(self):
        for function in WITH_TWO:
            self.assertRaises(Mismatch, function, STUCK, DOUBLE)
            self.assertRaises(Mismatch, function, DOUBLE, STUCK)
            self.assertRaises(Mismatch, function, TOWER, AHEAD)
            self.assertRaises(Mismatch, function, of_size(2001), FOUR)
            self.assertRaises(Mismatch, function, copier("a"), copier("b"))
        for thing in ODD:
            self.assertRaises(Mismatch, shows_alike, STUCK, DOUBLE, thing)


if __name__ == "__main__":
    unittest.main()
