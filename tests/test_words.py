"""Point 3: words and texts, and the longest common beginning."""

import copy
import itertools
import unittest

from rescans.words import common, is_text, is_word
from samples import EXPANDERS, ODD


def plain_common(one, other):
    many = 0
    while many < min(len(one), len(other)) and one[many] == other[many]:
        many += 1
    return one[:many]


def strings(signs, most):
    for many in range(most + 1):
        for parts in itertools.product(signs, repeat=many):
            yield "".join(parts)


class IsWordTest(unittest.TestCase):
    def test_words(self):
        for signs, word in [("ab", "abba"), ("ab", ""), ("ab", "b"), ("a", "aaaa"), ("", ""), ("bdxz", "zzxdb"),
                            ("abcdefghijklmnopqrstuvwxyz", "hello"), (" ", "  "), ("ba", "ab"), ("aa", "aaa"),
                            ("a\n\t~", "~\t\n")]:
            with self.subTest(signs=signs, word=word):
                self.assertIs(is_word(signs, word), True)

    def test_strings_that_are_no_words(self):
        for signs, word in [("ab", "abc"), ("ab", "cab"), ("ab", "acb"), ("ab", "A"), ("ab", " "), ("ab", "ab "),
                            ("ab", " ab"), ("ab", "a\n"), ("ab", "a\tb"), ("", "a"), ("", " "), ("a", "b"),
                            ("ab", "."), ("ab", "a,b"), ("ac", "abc"), ("a", "aaaaXaaaa"), ("a-c", "b")]:
            with self.subTest(signs=signs, word=word):
                self.assertIs(is_word(signs, word), False)

    def test_all_short_strings(self):
        for signs in ("", "a", "ab", "ac", "cb", "abc"):
            for word in strings("abc", 5):
                self.assertIs(is_word(signs, word), all(sign in signs for sign in word), (signs, word))

    def test_long_words(self):
        for many in (200, 201, 2000, 2001, 5000):
            self.assertIs(is_word("ab", "ab" * (many // 2) + "a" * (many % 2)), True)
            self.assertIs(is_word("ab", "a" * (many // 2) + "c" + "a" * (many // 2)), False)

    def test_objects_that_are_no_strings(self):
        for thing in ODD + EXPANDERS + [("a", "b"), ["a"], {"a": "b"}, [""], ("",)]:
            for signs in ("", "a", "ab"):
                with self.subTest(thing=thing, signs=signs):
                    self.assertIs(is_word(signs, thing), False)
                    self.assertIs(is_text(signs, thing), False)

    def test_nothing_is_changed(self):
        for thing in [["a", ["b"]], {"a": ["b"]}, [[], {}]]:
            kept = copy.deepcopy(thing)
            is_word("ab", thing)
            is_text("ab", thing)
            self.assertEqual(thing, kept)


class IsTextTest(unittest.TestCase):
    def test_texts(self):
        for signs, text in [("ab", "abba"), ("ab", ""), ("", ""), ("a", "a" * 199), ("a", "a" * 200),
                            ("ab", "ab" * 100)]:
            with self.subTest(signs=signs, text=text):
                self.assertIs(is_text(signs, text), True)

    def test_strings_that_are_no_texts(self):
        for signs, text in [("ab", "abc"), ("", "a"), ("a", "a" * 201), ("ab", "ab" * 100 + "b"), ("a", "a" * 5000),
                            ("a", "a" * 199 + "b"), ("a", "b" + "a" * 199)]:
            with self.subTest(signs=signs, text=text):
                self.assertIs(is_text(signs, text), False)


class CommonTest(unittest.TestCase):
    def test_examples(self):
        for one, other, longest in [("abab", "abb", "ab"), ("", "", ""), ("", "a", ""), ("a", "", ""), ("a", "a", "a"),
                                    ("a", "b", ""), ("ab", "abab", "ab"), ("abab", "ab", "ab"), ("ba", "aa", "")]:
            with self.subTest(one=one, other=other):
                self.assertEqual(common(one, other), longest)

    def test_all_short_strings(self):
        words = list(strings("ab", 6))
        for one in words:
            for other in words:
                self.assertEqual(common(one, other), plain_common(one, other), (one, other))

    def test_long_strings(self):
        for many in (1, 2, 3, 63, 64, 65, 199, 1999, 2000, 2001, 5000):
            for place in {0, 1, many // 2, many - 2, many - 1} & set(range(many)):
                one = "a" * many
                other = "a" * place + "b" + "a" * (many - place - 1)
                self.assertEqual(common(one, other), "a" * place)
                self.assertEqual(common(other, one), "a" * place)
            self.assertEqual(common("a" * many, "a" * many), "a" * many)
            self.assertEqual(common("a" * many, "a" * (many - 1)), "a" * (many - 1))
            self.assertEqual(common("a" * many + "b", "a" * many + "c"), "a" * many)

    def test_other_characters(self):
        self.assertEqual(common("a ~\n\tb", "a ~\n\tc"), "a ~\n\t")


if __name__ == "__main__":
    unittest.main()
