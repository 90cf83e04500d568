"""Point 10: sources of a word, and papers that it has none."""

import copy
import itertools
import random
import unittest

from rescans.calls import outcome
from rescans.errors import NoExpander, NoText
from rescans.sources import how_many, no_source, shows_no_source, source, sources
from plainly import drawn, outcomes, run_plain, run_values, texts
from samples import (
    AHEAD, DOUBLE, EXPANDERS, FOUR, LOOP, NO_EXPANDERS, ODD, STUCK, SWAP, TOWER, limit, of_size, state_of,
)

DROP = ("ab", "", (((("", "", 0), ("b", "", 0)), ""),))


def first_of(expander, word):
    return next(sources(expander, word), None)


def shows_some(expander, word):
    return shows_no_source(expander, word, ())


WITH_WORD = [source, how_many, no_source, shows_some, first_of]


def drawn_ones(seed, many):
    """Plain forms of drawn expanders of up to four states, with words of which some are outcomes."""
    chance = random.Random(seed)
    for _ in range(many):
        signs = chance.choice(["a", "ab", "ab", "abc"])
        expander = drawn(chance, signs, chance.randint(1, 4), most_done=chance.choice([1, 2]), most_back=1,
                         gaps=chance.choice([0, 0.2, 0.4]), lasts=chance.choice([0.2, 0.6]))
        form = run_plain(expander, run_values(expander))
        found = list(outcomes(form, 3).values())
        words = [chance.choice(found)] if found else []
        words.append("".join(chance.choice(signs) for _ in range(chance.randint(0, 4))))
        for word in words:
            if len(word) <= 8:
                yield chance, expander, form, word


def moves_from(form, word, pair):
    """Where the moves lead to that do what stands in the word at a place, by point 10."""
    state, place = pair
    return [(move[2], place + len(move[0])) for move in form[2][state][0]
            if move is not None and word[place:place + len(move[0])] == move[0]]


def is_paper(form, word, thing):
    """Point 10 word by word, for an ascending tuple of different pairs."""
    if word[:len(form[1])] != form[1]:
        return thing == ()
    if (0, len(form[1])) not in thing:
        return False
    for state, place in thing:
        if form[2][state][1] is not None and form[2][state][1] == word[place:]:
            return False
        if any(goal not in thing for goal in moves_from(form, word, (state, place))):
            return False
    return True


def all_pairs(form, word):
    return [(state, place) for state in range(len(form[2])) for place in range(len(word) + 1)]


def counts_of(form, word, most):
    """How many sources of each length up to the most there are."""
    counts = []
    level = {(0, len(form[1])): 1} if word.startswith(form[1]) else {}
    for _ in range(most + 1):
        counts.append(sum(many for (state, place), many in level.items() if form[2][state][1] == word[place:]))
        following = {}
        for pair, many in level.items():
            for goal in moves_from(form, word, pair):
                following[goal] = following.get(goal, 0) + many
        level = following
    return counts


class DrawnTest(unittest.TestCase):
    def test_sources_by_all_texts(self):
        kinds = {"none": 0, "some": 0, "many": 0}
        for _, expander, form, word in drawn_ones(51, 500):
            kept = copy.deepcopy(expander)
            most = {1: 40, 2: 9, 3: 6}[len(expander[0])]
            right = [text for text, told in outcomes(form, most).items() if told == word]
            pairs = len(all_pairs(form, word))
            counts = counts_of(form, word, max(most, 2 * pairs))
            self.assertEqual(sum(counts[:most + 1]), len(right))
            found = list(itertools.islice(sources(expander, word), len(right) + 1))
            self.assertEqual(found[:len(right)], right, (expander, word))
            self.assertTrue(all(len(text) > most for text in found[len(right):]))
            if len(found) > len(right):
                self.assertEqual(outcome(expander, found[-1]), word)
            self.assertEqual(source(expander, word), found[0] if found else None)
            # A source that comes to one pair twice can do so any number of times.
            endless = any(counts[pairs:])
            self.assertEqual(how_many(expander, word), None if endless else sum(counts), (expander, word))
            self.assertIs(no_source(expander, word) is None, sum(counts) > 0)
            self.assertEqual(expander, kept)
            kinds["many" if endless else "some" if sum(counts) else "none"] += 1
        self.assertGreater(min(kinds.values()), 80, kinds)

    def test_papers_by_the_pairs(self):
        found = {True: 0, False: 0}
        for chance, expander, form, word in drawn_ones(52, 500):
            paper = no_source(expander, word)
            pairs = all_pairs(form, word)
            if paper is None:
                tried = [(), tuple(pairs)] + [tuple(sorted(chance.sample(pairs, chance.randint(1, len(pairs)))))]
            else:
                self.assertTrue(is_paper(form, word, paper), (expander, word))
                self.assertEqual(paper, tuple(sorted(set(paper))))
                self.assertIs(shows_no_source(expander, word, paper), True)
                tried = [tuple(sorted({*paper, *chance.sample(pairs, chance.randint(1, min(3, len(pairs))))}))
                         for _ in range(4)]
                # No paper has fewer pairs, since each one can do without none of its own.
                for pair in paper:
                    less = tuple(one for one in paper if one != pair)
                    self.assertIs(shows_no_source(expander, word, less), False)
                if len(pairs) <= 8:
                    for many in range(len(paper)):
                        for part in itertools.combinations(pairs, many):
                            self.assertFalse(is_paper(form, word, part))
            for thing in tried:
                right = is_paper(form, word, thing)
                self.assertIs(shows_no_source(expander, word, thing), right, (expander, word, thing))
                found[right] += 1
        self.assertGreater(min(found.values()), 100)


class SourcesTest(unittest.TestCase):
    def test_examples(self):
        self.assertEqual(source(DOUBLE, "bbb"), "ab")
        self.assertEqual(how_many(DOUBLE, "bbb"), 3)
        self.assertEqual(list(sources(DOUBLE, "bbb")), ["ab", "ba", "bbb"])
        self.assertEqual(no_source(DOUBLE, "ba"), ((0, 0), (0, 1)))
        self.assertIsNone(how_many(DROP, "b"))
        self.assertEqual(list(itertools.islice(sources(DROP, "b"), 6)), ["b", "ab", "ba", "aab", "aba", "baa"])

    def test_the_empty_word(self):
        self.assertEqual(list(sources(DOUBLE, "")), [""])
        self.assertEqual((source(DOUBLE, ""), how_many(DOUBLE, ""), no_source(DOUBLE, "")), ("", 1, None))
        self.assertEqual(list(itertools.islice(sources(DROP, ""), 3)), ["", "a", "aa"])
        self.assertIsNone(how_many(DROP, ""))
        self.assertEqual(no_source(STUCK, ""), ())
        self.assertEqual(no_source(("a", "", STUCK[2]), ""), ((0, 0),))
        self.assertIs(shows_no_source(STUCK, "", ()), True)
        self.assertIs(shows_no_source(("a", "", STUCK[2]), "", ()), False)

    def test_first_is_not_the_beginning(self):
        one = ("ab", "ab", copied_states("ab"))
        for word in ("", "a", "b", "aab", "ba"):
            self.assertEqual((source(one, word), how_many(one, word), list(sources(one, word))), (None, 0, []))
            self.assertEqual(no_source(one, word), ())
            self.assertIs(shows_no_source(one, word, ()), True)
            self.assertIs(shows_no_source(one, word, ((0, 0),)), False)
        self.assertEqual((source(one, "ab"), source(one, "abba"), how_many(one, "abba")), ("", "ba", 1))
        self.assertIsNone(no_source(one, "abba"))

    def test_the_last_is_a_part_of_the_word(self):
        one = ("ab", "", (((("a", "", 0), ("b", "", 0)), "bb"),))
        self.assertEqual(list(sources(one, "abb")), ["a"])
        self.assertEqual(list(sources(one, "bb")), [""])
        self.assertEqual(no_source(one, "ba"), ((0, 0), (0, 1), (0, 2)))
        self.assertEqual(no_source(one, "b"), ((0, 0), (0, 1)))

    def test_moves_that_do_nothing_and_lead_nowhere(self):
        # A round of moves that do nothing, behind which nothing has an outcome, is no reason for sources without end.
        one = ("ab", "", (((("a", "", 0), ("", "", 1)), ""), ((("", "", 1), ("b", "", 1)), None)))
        self.assertEqual((how_many(one, "aa"), list(sources(one, "aa"))), (1, ["aa"]))
        self.assertEqual(no_source(one, "ab"), ((0, 0), (0, 1), (1, 0), (1, 1), (1, 2)))
        # Nor is one that no text comes to with what stands in the word.
        two = ("ab", "", (((("a", "", 0), ("b", "", 1)), ""), ((("", "", 1), ("b", "", 1)), "")))
        self.assertEqual((how_many(two, "aa"), how_many(two, "aab")), (1, None))

    def test_calls_are_read_in_the_plain_form(self):
        self.assertEqual(source(TOWER, "ar" * 18), "aa")
        self.assertEqual(source(LOOP, "bb"), "bb")
        self.assertEqual(no_source(LOOP, "ab"), ((0, 0),))
        self.assertEqual(source(AHEAD, "abb"), "ab")
        self.assertIsNone(source(AHEAD, ""))

    def test_sources_without_end_of_one_length_each(self):
        one = ("a", "", (((("", "", 1),), None), ((("", "", 2),), None), ((("", "", 0),), "")))
        self.assertEqual(list(itertools.islice(sources(one, ""), 4)), ["a" * many for many in (2, 5, 8, 11)])
        self.assertIsNone(how_many(one, ""))

    def test_many_sources(self):
        one = ("ab", "", (((("a", "", 0), ("a", "", 0)), ""),))
        self.assertEqual(how_many(one, "a" * 200), 2 ** 200)
        first = list(itertools.islice(sources(one, "a" * 200), 4))
        self.assertEqual(first, ["a" * 200, "a" * 199 + "b", "a" * 198 + "ba", "a" * 198 + "bb"])
        self.assertEqual(source(one, "a" * 200), "a" * 200)
        two = ("abcd", "", ((tuple((word, "", 0) for word in ("aa", "a", "aaa", "aa")), ""),))
        self.assertEqual(next(sources(two, "a" * 200)), "a" + "c" * 66)
        ways = [1, 1, 3]
        while len(ways) <= 200:
            ways.append(ways[-1] + 2 * ways[-2] + ways[-3])
        self.assertEqual(how_many(two, "a" * 200), ways[200])

    def test_they_are_found_one_by_one(self):
        # There are 2 ** 150 sources ahead of the ones that are longer.
        one = ("ab", "", (((("a", "", 0), ("a", "", 0)), ""),))
        found = sources(one, "a" * 150)
        for number in range(100):
            self.assertEqual(next(found), "".join("b" if digit == "1" else "a" for digit in f"{number:0150b}"))

    def test_texts_that_lead_nowhere_are_not_gone_through(self):
        # All texts of 100 signs and more can be read, but only "c" at the front is right.
        moves = (("", "", 1), ("", "", 1), ("", "", 2))
        one = ("abc", "", ((moves, None), ((("", "", 1), ("", "", 1), ("", "", 1)), None),
                           (((None, None, ("a", "", 2))), "")))
        self.assertEqual(list(sources(one, "a" * 100)), ["c" * 101])
        self.assertEqual((how_many(one, "a" * 100), source(one, "a" * 100)), (1, "c" * 101))


class LongTest(unittest.TestCase):
    """Least sources that are long: one sign of the word takes one round of 60 states."""

    def rounds(self, signs):
        """Each move from the last state to the first one does a sign; all others do nothing."""
        others = (None,) * (len(signs) - 1)
        states = [((("", "", at + 1), *others), "") for at in range(59)]
        states.append(((("a", "", 0), *others), None))
        return signs, "", tuple((moves, "" if at == 0 else None) for at, (moves, _) in enumerate(states))

    def test_long_sources(self):
        for word in ("a", "a" * 200):
            right = "a" * 60 * len(word)
            self.assertEqual(source(self.rounds("ab"), word), right)
            self.assertEqual(list(sources(self.rounds("ab"), word)), [right])
            self.assertEqual(how_many(self.rounds("ab"), word), 1)
        self.assertEqual(len(no_source(self.rounds("ab"), "a" * 199 + "b")), 199 * 60 + 60)

    def test_long_sources_among_many(self):
        # In each state "b" does nothing and stays: there is no end of sources, and many pairs lead to them.
        signs, first, states = self.rounds("ab")
        one = (signs, first, tuple(((moves[0], ("", "", at)), last) for at, (moves, last) in enumerate(states)))
        self.assertEqual(source(one, "a" * 200), "a" * 12000)
        found = list(itertools.islice(sources(one, "a" * 200), 3))
        self.assertEqual(found, ["a" * 12000, "a" * 12000 + "b", "a" * 11999 + "ba"])
        self.assertIsNone(how_many(one, "a" * 200))


class PapersTest(unittest.TestCase):
    def test_objects_of_any_form(self):
        right = ((0, 0), (0, 1))
        things = ODD + [
            list(right), [list(one) for one in right], ((0, 1), (0, 0)), ((0, 0), (0, 0), (0, 1)), ((0, 0),), ((0, 1),),
            ((False, 0), (0, 1)), ((0, False), (0, 1)), ((0, 0), (0, True)), ((0, 0), [0, 1]), ((0, 0), (0, 1, 0)),
            ((0, 0), (0,)), ((0, 0), 1), ((0, 0), (0, 1), None), ((0, 0), (0, 1), (0, 3)), ((0, 0), (0, 1), (1, 0)),
            ((0, -1), (0, 0), (0, 1)), ((-1, 0), (0, 0), (0, 1)), ((0, 0), (0, 1), (0, 10 ** 12)), {right: right},
            {(0, 0): None, (0, 1): None}, "", "00", ("00", "01"), ((0, 0), ("0", 1)), ((0, 0), (0, "1")),
            ((0, 0), (0, [])), ((0, 0), ({}, 1)), (((0, 0), (0, 1)),), ((0, 0), (0, 1)) * 30000, ((0, None),),
        ]
        for thing in things:
            with self.subTest(thing=str(thing)[:80]):
                kept = copy.deepcopy(thing)
                self.assertIs(shows_no_source(DOUBLE, "ba", thing), False)
                self.assertEqual(thing, kept)
                self.assertIs(shows_no_source(DOUBLE, "bb", thing), False)
        self.assertIs(shows_no_source(DOUBLE, "ba", right), True)
        # The last place is the length of the word.
        one = ("ab", "", (((None, None), "a"),))
        self.assertIs(shows_no_source(one, "b", ((0, 0), (0, 1))), True)
        self.assertIs(shows_no_source(one, "b", ((0, 0), (0, 1), (0, 2))), False)
        self.assertIs(shows_no_source(one, "b", ((0, 0), (1, 0))), False)

    def test_more_pairs_than_there_need_be(self):
        one = ("ab", "", (((("a", "", 0), None), None), ((("a", "", 1), ("b", "", 0)), None), ((None, None), "b")))
        least = ((0, 0), (0, 1))
        self.assertEqual(no_source(one, "ab"), least)
        for more, right in [(((1, 2),), True), (((1, 1),), False), (((0, 2), (1, 1)), True), (((2, 0),), True),
                            (((2, 1),), False), (((2, 2),), True)]:
            self.assertIs(shows_no_source(one, "ab", tuple(sorted(least + more))), right, more)


class ArgumentsTest(unittest.TestCase):
    def test_what_is_no_expander(self):
        for thing in NO_EXPANDERS:
            with self.subTest(thing=thing):
                for function in WITH_WORD:
                    self.assertRaises(NoExpander, function, thing, "a")
                    self.assertRaises(NoExpander, function, thing, None)

    def test_what_is_no_word(self):
        for thing in ODD + ["c", "abc", "A", " ", "a b", "a" * 201, "b" * 5000, ("a",), ["a"]]:
            with self.subTest(thing=thing):
                kept = copy.deepcopy(thing)
                for function in WITH_WORD:
                    self.assertRaises(NoText, function, DOUBLE, thing)
                    self.assertRaises(NoText, function, of_size(2001), thing)
                self.assertEqual(thing, kept)

    def test_words_of_200_signs(self):
        self.assertEqual(source(SWAP, "ab" * 100), "ba" * 100)
        self.assertEqual(list(sources(SWAP, "ab" * 100)), ["ba" * 100])
        self.assertEqual(len(no_source(DOUBLE, "b" * 199 + "a")), 200)
        self.assertEqual(how_many(FOUR, "b" * 200), 0)

    def test_calls_with_long_values(self):
        for function in WITH_WORD:
            self.assertEqual(limit(function, of_size(2001), "a"), 2000)
            self.assertIsNone(limit(function, of_size(2000), "a"))
            # That of a state that is not reached counts, too.
            far = (tuple((word, back, 1) for word, back, _ in of_size(2001)[2][0][0]), None)
            self.assertEqual(limit(function, ("ab", "", (state_of(2), far)), ""), 2000)

    def test_nothing_is_changed(self):
        for expander in EXPANDERS:
            kept = copy.deepcopy(expander)
            for function in WITH_WORD:
                function(expander, expander[0][0])
            self.assertEqual(expander, kept)


def copied_states(signs):
    return ((tuple((sign, "", 0) for sign in signs), ""),)


class TextsTest(unittest.TestCase):
    def test_the_order_of_the_sources(self):
        one = ("abc", "", (((("", "", 0), ("a", "", 0), ("", "", 1)), ""), ((("a", "", 0), ("", "", 0), None), "a")))
        found = list(itertools.islice(sources(one, "aa"), 60))
        self.assertEqual(found, sorted(found, key=lambda text: (len(text), text)))
        self.assertEqual(len(set(found)), 60)
        right = [text for text in texts("abc", 4) if outcomes(one, 4).get(text) == "aa"]
        self.assertEqual(found[:len(right)], right)


if __name__ == "__main__":
    unittest.main()
