"""Point 13: live texts, their edits, and what they tell."""

import copy
import random
import unittest

from rescans.calls import outcome
from rescans.errors import Mismatch, NoExpander, NoMark, NoText
from rescans.live import Live
from plainly import drawn, run_values
from samples import AHEAD, DOUBLE, FOUR, LOOP, NO_EXPANDERS, ODD, STUCK, SWAP, TOWER, limit, of_size, thrown

NO_EDITS = [one for one in ODD if not isinstance(one, tuple) or len(one) not in (2, 3)] + [
    (), ("set",), ("put",), ("drop",), ("set", 0), ("put", 0), ("drop", 0, "a"), ("set", 0, "a", "b"), ("cut", 0),
    ("drop", 0, None), ["set", 0, "a"], ("Set", 0, "a"), ("set ", 0, "a"), ("", 0, "a"), (0, "set", "a"),
    (None, 0, "a"), (["set"], 0, "a"), ({}, 0), (("set",), 0, "a"), {"set": 0}, "set", ("put", 0, "a", None),
    (True, 0, "a"), ("undo",), ("drop",) * 4,
]


def state_of(live):
    """All that a live text tells, and what can be undone and done again, step by step."""
    told = [live.text, live.notes(), len(live)]
    rows = []
    for name, back in (("undo", "redo"), ("redo", "undo")):
        row = []
        while True:
            try:
                getattr(live, name)()
            except NoMark:
                break
            row.append((live.text, live.notes()))
        for _ in row:
            getattr(live, back)()
        rows.append(row)
    return told, rows


def edited_plainly(signs, text, edit):
    """The text behind an edit, or the error that it is refused with, for an edit of a right form."""
    word, place, *rest = edit
    places = range(len(text) + (word == "put"))
    if type(place) is not int or place not in places:
        return NoText
    if word == "drop":
        return text[:place] + text[place + 1:]
    if rest[0] not in list(signs):
        return NoText
    if word == "set":
        return text[:place] + rest[0] + text[place + 1:]
    return NoText if len(text) == 200 else text[:place] + rest[0] + text[place:]


def drawn_edit(chance, signs, many):
    word = chance.choice(["set", "put", "put", "drop"])
    place, sign = chance.randint(0, many), chance.choice(signs)
    if chance.random() < 0.1:
        place = chance.choice([-1, many + 1, True, None, "0"])
    if chance.random() < 0.1:
        sign = chance.choice(["", "z", signs * 2, None, 0])
    return (word, place) if word == "drop" else (word, place, sign)


class DrawnTest(unittest.TestCase):
    def test_drawn_edits_against_new_live_texts(self):
        chance = random.Random(81)
        counts = {"done": 0, "refused": 0}
        for _ in range(30):
            signs = chance.choice(["a", "ab", "abc"])
            expander = drawn(chance, signs, chance.randint(1, 4), gaps=0.1, lasts=0.2)
            values = run_values(expander)
            texts = ["".join(chance.choice(signs) for _ in range(chance.randint(0, 5)))]
            live = Live(expander, texts[0])
            notes = []
            for _ in range(40):
                edit = drawn_edit(chance, signs, len(texts[-1]))
                told = edited_plainly(signs, texts[-1], edit)
                if told is NoText:
                    self.assertRaises(NoText, live.do, edit)
                    counts["refused"] += 1
                else:
                    self.assertIsNone(live.do(edit))
                    texts.append(told)
                    notes.append(edit)
                    counts["done"] += 1
                self.check(live, expander, texts[-1], values)
                self.assertEqual(live.notes(), notes)
            for place in range(len(notes) - 1, -1, -1):
                self.assertIsNone(live.undo())
                self.check(live, expander, texts[place], values)
                self.assertEqual(live.notes(), notes[:place])
            self.assertRaises(NoMark, live.undo)
            for place in range(1, len(texts)):
                self.assertIsNone(live.redo())
                self.check(live, expander, texts[place], values)
                self.assertEqual(live.notes(), notes[:place])
            self.assertRaises(NoMark, live.redo)
        self.assertGreater(min(counts.values()), 200, counts)

    def check(self, live, expander, text, values):
        fresh = Live(expander, text)
        self.assertEqual((live.text, len(live), live.expander), (text, len(text), expander))
        self.assertIs(live == fresh, True)
        self.assertIs(fresh != live, False)
        self.assertEqual(thrown(live.outcome), thrown(outcome, expander, text))
        state, stuck = 0, None
        for place, sign in enumerate(text):
            self.assertEqual(live.state_at(place), state)
            self.assertEqual(fresh.state_at(place), state)
            if state is not None:
                value = values[state, sign]
                if not isinstance(value, tuple):
                    stuck = place
                state = value[1] if isinstance(value, tuple) else None
        self.assertEqual(live.state_at(len(text)), state)
        self.assertEqual((live.stuck(), fresh.stuck()), (stuck, stuck))
        for sign in expander[0]:
            self.assertIs(sign in live, sign in list(text))

    def test_drawn_lists_of_edits(self):
        chance = random.Random(82)
        counts = {True: 0, False: 0}
        for _ in range(400):
            signs = chance.choice(["a", "ab"])
            text = "".join(chance.choice(signs) for _ in range(chance.randint(0, 4)))
            one, other = Live(SWAP if signs == "ab" else STUCK, text), Live(SWAP if signs == "ab" else STUCK, text)
            for live in (one, other):
                live.all_done([("put", 0, "a"), ("put", 1, signs[-1]), ("drop", 0)])
                live.undo()
            before = state_of(one)
            edits, now = [], other.text
            for _ in range(chance.randint(0, 4)):
                edits.append(drawn_edit(chance, signs, len(now)))
                told = edited_plainly(signs, now, edits[-1])
                if told is NoText:
                    break
                now = told
            refused = edits != [] and told is NoText
            kept = copy.deepcopy(edits)
            if refused:
                self.assertRaises(NoText, one.all_done, edits)
                self.assertEqual(state_of(one), before)
            else:
                self.assertIsNone(one.all_done(edits))
                for edit in edits:
                    other.do(edit)
                self.assertEqual(state_of(one), state_of(other))
            self.assertEqual(edits, kept)
            counts[refused] += 1
        self.assertGreater(min(counts.values()), 100)


class LiveTest(unittest.TestCase):
    def test_examples(self):
        live = Live(DOUBLE, "ab")
        self.assertEqual(live.outcome(), "bbb")
        self.assertIsNone(live.do(("put", 0, "a")))
        self.assertEqual((live.text, live.outcome(), live.state_at(3)), ("aab", "bbbbb", 0))
        self.assertIsNone(live.undo())
        self.assertEqual((live.text, len(live), "b" in live), ("ab", 2, True))
        self.assertIsNone(live.redo())
        self.assertEqual(live.notes(), [("put", 0, "a")])
        live.do(("drop", 2))
        live.do(("set", 0, "b"))
        self.assertEqual((live.text, live.stuck()), ("ba", None))
        self.assertTrue(live == Live(live.expander, "ba"))

    def test_texts_without_an_outcome(self):
        self.assertEqual(thrown(Live(LOOP, "bba").outcome), ("endless", [(0, "a"), (0, "a")]))
        self.assertEqual(thrown(Live(AHEAD, "aa").outcome), ("breaks", [(1, "a")]))
        self.assertEqual(thrown(Live(STUCK, "a").outcome), ("last", []))
        live = Live(LOOP, "bbab")
        self.assertEqual([live.state_at(place) for place in range(5)], [0, 0, 0, None, None])
        self.assertEqual(live.stuck(), 2)
        live = Live(AHEAD, "aab")
        self.assertEqual([live.state_at(place) for place in range(4)], [0, 1, None, None])
        self.assertEqual(live.stuck(), 1)
        self.assertIsNone(Live(STUCK, "aaa").stuck())
        self.assertEqual(Live(STUCK, "aaa").state_at(3), 0)
        self.assertEqual((Live(STUCK, "").stuck(), Live(STUCK, "").state_at(0)), (None, 0))
        self.assertEqual(Live(LOOP, "a").stuck(), 0)

    def test_places_and_signs_of_edits(self):
        for edits, text in [([("put", 0, "b")], "bab"), ([("put", 1, "b")], "abb"), ([("put", 2, "a")], "aba"),
                            ([("set", 0, "b")], "bb"), ([("set", 1, "a")], "aa"), ([("drop", 0)], "b"),
                            ([("drop", 1)], "a"), ([("drop", 0), ("drop", 0), ("put", 0, "b")], "b"),
                            ([("set", 0, "a")], "ab")]:
            live = Live(DOUBLE, "ab")
            for edit in edits:
                live.do(edit)
            self.assertEqual((live.text, live.notes()), (text, edits))
            whole = Live(DOUBLE, "ab")
            whole.all_done(edits)
            self.assertEqual((whole.text, whole.notes()), (text, edits))
            for _ in edits:
                live.undo()
            self.assertEqual((live.text, live.notes()), ("ab", []))

    def test_an_edit_that_changes_no_sign_is_one(self):
        live = Live(DOUBLE, "ab")
        live.do(("set", 0, "b"))
        live.undo()
        live.do(("set", 0, "a"))
        self.assertEqual(live.notes(), [("set", 0, "a")])
        self.assertRaises(NoMark, live.redo)
        live.undo()
        self.assertRaises(NoMark, live.undo)

    def test_an_edit_ends_what_could_be_done_again(self):
        live = Live(DOUBLE, "ab")
        live.do(("drop", 0))
        live.do(("drop", 0))
        live.undo()
        live.do(("put", 1, "a"))
        self.assertRaises(NoMark, live.redo)
        self.assertEqual((live.text, live.notes()), ("ba", [("drop", 0), ("put", 1, "a")]))

    def test_nothing_to_undo(self):
        live = Live(DOUBLE, "ab")
        self.assertRaises(NoMark, live.undo)
        self.assertRaises(NoMark, live.redo)
        live.do(("drop", 0))
        self.assertRaises(NoMark, live.redo)
        live.undo()
        self.assertRaises(NoMark, live.undo)
        self.assertEqual(live.text, "ab")
        live.redo()
        self.assertRaises(NoMark, live.redo)
        self.assertEqual(live.text, "b")

    def test_a_history_of_many_edits(self):
        live = Live(SWAP, "")
        texts = [""]
        for number in range(500):
            place = number * 7 % (len(live) + 1)
            edit = ("put", place, "ab"[number % 2]) if len(live) < 150 else ("drop", number * 11 % len(live))
            live.do(edit)
            texts.append(live.text)
        self.assertEqual(len(live.notes()), 500)
        for text in reversed(texts[:-1]):
            live.undo()
            self.assertEqual(live.text, text)
        self.assertRaises(NoMark, live.undo)
        for text in texts[1:]:
            live.redo()
            self.assertEqual(live.text, text)
        self.assertRaises(NoMark, live.redo)

    def test_texts_of_200_signs(self):
        full = "ab" * 100
        live = Live(SWAP, full)
        self.assertEqual((live.outcome(), len(live), live.state_at(200)), ("ba" * 100, 200, 0))
        for place in (0, 7, 200):
            self.assertRaises(NoText, live.do, ("put", place, "a"))
        self.assertEqual((live.text, live.notes()), (full, []))
        live.all_done([("set", 199, "a"), ("drop", 0), ("put", 199, "b")])
        self.assertEqual(live.text, full[1:199] + "ab")
        live.undo()
        live.do(("put", 0, "a"))
        self.assertRaises(NoText, live.do, ("put", 0, "a"))
        self.assertRaises(NoText, live.all_done, [("drop", 0), ("put", 0, "a"), ("put", 0, "a")])
        self.assertEqual((len(live), len(live.notes())), (200, 3))

    def test_two_live_texts_are_independent(self):
        one, other = Live(DOUBLE, "ab"), Live(DOUBLE, "ab")
        self.assertTrue(one == other)
        one.do(("drop", 0))
        self.assertFalse(one == other)
        self.assertEqual((other.text, other.notes()), ("ab", []))
        self.assertRaises(NoMark, other.undo)
        other.do(("set", 0, "b"))
        one.undo()
        self.assertEqual((one.text, other.text, other.notes()), ("ab", "bb", [("set", 0, "b")]))
        other.undo()
        self.assertTrue(one == other)

    def test_equal_ones(self):
        live = Live(DOUBLE, "ab")
        live.do(("put", 0, "a"))
        self.assertIs(live == Live(DOUBLE, "aab"), True)
        self.assertIs(live == Live(DOUBLE, "ab"), False)
        self.assertIs(live == Live(SWAP, "aab"), False)
        self.assertIs(live == Live(DOUBLE, "aba"), False)
        for thing in ODD + ["aab", DOUBLE, (DOUBLE, "aab")]:
            self.assertIs(live == thing, False)
            self.assertIs(live != thing, True)

    def test_signs_in_a_text(self):
        live = Live(FOUR, "bxxb")
        for thing in ODD + ["", "bx", "xx", "bxxb", "d", "z", "a", ("b",), ["b"]]:
            self.assertIs(thing in live, False, thing)
        self.assertIs("b" in live, True)
        self.assertIs("x" in live, True)
        live.all_done([("drop", 0), ("drop", 2)])
        self.assertIs("b" in live, False)
        self.assertIs("" in Live(DOUBLE, ""), False)
        self.assertEqual(len(Live(DOUBLE, "")), 0)

    def test_what_is_returned_is_new(self):
        live = Live(DOUBLE, "ab")
        live.do(("drop", 0))
        told = live.notes()
        told.append(("drop", 0))
        told[0] = None
        self.assertEqual(live.notes(), [("drop", 0)])
        edits = [("put", 0, "a"), ("put", 0, "b")]
        live.all_done(edits)
        edits.clear()
        self.assertEqual(live.notes(), [("drop", 0), ("put", 0, "a"), ("put", 0, "b")])


class RefusedTest(unittest.TestCase):
    def live(self):
        """A live text with an edit that can be undone, and one that can be done again."""
        live = Live(DOUBLE, "ab")
        live.all_done([("put", 0, "a"), ("set", 2, "a"), ("drop", 1)])
        live.undo()
        return live

    def test_wrong_forms(self):
        live = self.live()
        before = state_of(live)
        for edit in NO_EDITS:
            with self.subTest(edit=edit):
                self.assertRaises(Mismatch, live.do, edit)
                self.assertRaises(Mismatch, live.all_done, [("drop", 0), edit])
                self.assertRaises(Mismatch, live.all_done, [edit, ("drop", 9)])
                self.assertEqual(state_of(live), before)

    def test_wrong_places(self):
        live = self.live()
        before = state_of(live)
        for place in [one for one in ODD if isinstance(one, bool) or one not in (0, 1)] + [4, 200, "0", "", (0,), [0]]:
            with self.subTest(place=place):
                for edit in [("set", place, "a"), ("put", place, "a"), ("drop", place), ("set", place, None)]:
                    self.assertRaises(NoText, live.do, edit)
                self.assertRaises(NoText, live.state_at, place)
                self.assertEqual(state_of(live), before)
        self.assertRaises(NoText, live.do, ("set", 3, "a"))
        self.assertRaises(NoText, live.do, ("drop", 3))
        for edit in [("set", 0, "a"), ("drop", 0)]:
            self.assertRaises(NoText, Live(DOUBLE, "").do, edit)
        self.assertEqual(live.state_at(3), 0)
        live.do(("put", 3, "b"))
        self.assertEqual(live.text, "aaab")

    def test_wrong_signs(self):
        live = self.live()
        before = state_of(live)
        for sign in ODD + ["", "ab", "ba", "c", "A", " ", "aa", ("a",), ["a"], {"a": 1}]:
            with self.subTest(sign=sign):
                for word in ("set", "put"):
                    self.assertRaises(NoText, live.do, (word, 0, sign))
                    self.assertRaises(NoText, live.do, (word, 9, sign))
                    self.assertRaises(NoText, live.all_done, [("drop", 0), (word, 0, sign)])
                self.assertEqual(state_of(live), before)

    def test_each_place_of_a_list_is_refused_in_turn(self):
        good = [("put", 0, "b"), ("set", 3, "b"), ("drop", 1), ("put", 3, "a"), ("drop", 0)]
        for bad, error in [(("drop", 9), NoText), (("cut", 0), Mismatch), (("set", 0, "c"), NoText), (None, Mismatch)]:
            for place in range(len(good) + 1):
                live = self.live()
                before = state_of(live)
                edits = good[:place] + [bad] + good[place:]
                self.assertRaises(error, live.all_done, edits)
                self.assertEqual(state_of(live), before)
                self.assertEqual(edits, good[:place] + [bad] + good[place:])
        live = self.live()
        live.all_done(good)
        self.assertEqual(live.notes()[2:], good)

    def test_the_first_refused_edit_tells_the_error(self):
        live = self.live()
        self.assertRaises(NoText, live.all_done, [("drop", 9), None])
        self.assertRaises(Mismatch, live.all_done, [None, ("drop", 9)])
        # The last one would be right only if the one ahead of it had been done.
        self.assertRaises(NoText, live.all_done, [("drop", 0), ("drop", 2)])

    def test_what_is_no_list(self):
        live = self.live()
        before = state_of(live)
        no_lists = [one for one in ODD if not isinstance(one, list)]
        for thing in no_lists + [(("drop", 0),), ("drop", 0), {0: ("drop", 0)}]:
            with self.subTest(thing=thing):
                self.assertRaises(Mismatch, live.all_done, thing)
                self.assertEqual(state_of(live), before)

    def test_an_empty_list_does_nothing(self):
        live = self.live()
        before = state_of(live)
        self.assertIsNone(live.all_done([]))
        self.assertEqual(state_of(live), before)

    def test_what_could_be_done_again_still_can(self):
        live = self.live()
        for edit in [("drop", 9), None, ("put", 0, "c")]:
            self.assertRaises((NoText, Mismatch), live.do, edit)
            self.assertRaises((NoText, Mismatch), live.all_done, [("drop", 0), edit])
        live.redo()
        self.assertEqual((live.text, live.notes()), ("aa", [("put", 0, "a"), ("set", 2, "a"), ("drop", 1)]))


class ArgumentsTest(unittest.TestCase):
    def test_what_is_no_expander_and_no_text(self):
        for thing in NO_EXPANDERS:
            self.assertRaises(NoExpander, Live, thing, "")
            self.assertRaises(NoExpander, Live, thing, None)
        for thing in ODD + ["c", "abc", "A", " ", "a" * 201, ("a",), ["a"]]:
            with self.subTest(thing=thing):
                self.assertRaises(NoText, Live, DOUBLE, thing)
                self.assertRaises(NoText, Live, of_size(2001), thing)

    def test_long_words(self):
        live = Live(of_size(2001), "ab")
        self.assertEqual([limit(live.outcome), limit(live.stuck), limit(live.state_at, 0)], [2000] * 3)
        self.assertRaises(NoText, live.state_at, 3)
        live.all_done([("put", 0, "a"), ("drop", 1)])
        live.undo()
        live.redo()
        self.assertEqual((live.text, live.notes(), len(live), "a" in live), (
            "ab", [("put", 0, "a"), ("drop", 1)], 2, True))
        self.assertTrue(live == Live(of_size(2001), "ab"))
        live = Live(of_size(2000), "a")
        self.assertEqual((len(live.outcome()), live.stuck(), live.state_at(1)), (2000, None, 0))
        live.do(("put", 0, "b"))
        # Only the outcome would have more signs.
        self.assertEqual([limit(live.outcome), limit(live.stuck), limit(live.state_at, 2)], [2000, None, None])

    def test_the_properties_are_its_own(self):
        live = Live(TOWER, "a")
        self.assertEqual((live.expander, live.text), (TOWER, "a"))


if __name__ == "__main__":
    unittest.main()
