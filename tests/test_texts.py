"""Points 14 and 15: words and expanders as texts."""

import random
import re
import unittest

from rescans.errors import NoExpander, SyntaxProblem
from rescans.expanders import copier, is_expander
from rescans.texts import format_expander, format_word, parse_expander, parse_word
from plainly import drawn
from samples import AHEAD, DOUBLE, EXPANDERS, FOUR, NO_EXPANDERS, TOWER, ladder

TOKEN = re.compile(r"[a-z]+|[0-9]+|[.:;,><!]")


def column(function, text):
    """The line and the column of SyntaxProblem, or None if it is not raised."""
    try:
        function(text)
    except SyntaxProblem as error:
        return error.line, error.column
    except NoExpander:
        return None
    return None


def tokens_of(text):
    """The tokens with their columns; or the column of the first that is none. (A second reading of point 14.)"""
    found, at = [], 0
    while at < len(text):
        if text[at] in " \t":
            at += 1
            continue
        match = TOKEN.match(text, at)
        token = match.group() if match else ""
        if not token or token.isdigit() and not re.fullmatch("0|[1-9][0-9]?", token):
            return at + 1
        found.append((token, at + 1))
        at += len(token)
    return found


def kind_of(token):
    return "L" if token.isalpha() else "N" if token.isdigit() else token


def form_of_word():
    return r"[L.]"


def form_of_expander(many):
    """A regular expression for the kinds of the tokens of an expander whose first row has so many letters."""
    move = r"(?:!|[L.]<[L.]>N)"
    state = ";" + (move + ",") * many + r"[L.!]"
    return r"L[L.](?:" + state + r"){1,60}"


def goes_on(form, kinds):
    """Whether kinds of tokens are the beginning of what a form describes: by all ways to go on from there."""
    return any(re.fullmatch(form, kinds + more) for more in ENDS)


def problem_of(form_for, text):
    """The column at which a text does not go on, or None."""
    tokens = tokens_of(text)
    if isinstance(tokens, int):
        return tokens
    form = form_for(tokens)
    kinds = "".join(kind_of(token) for token, _ in tokens)
    if re.fullmatch(form, kinds):
        return None
    for many in range(len(tokens)):
        if not goes_on(form, kinds[:many + 1]):
            return tokens[many][1]
    return len(text) + 1


def ends_for(many):
    """What may follow the beginning of a text, so that one of them fits for each that there is."""
    ends = ["", "L", "."]
    for left in range(many + 1):
        rest = "!," * left + "!"
        ends.extend(ahead + rest for ahead in ("", ",", "N,", ">N,", "L>N,", "<L>N,"))
        ends.extend((";" + rest, "L;" + rest))
    return ends


ENDS = sorted({end for many in range(8) for end in ends_for(many)}, key=len)


def expander_problem(text):
    return problem_of(lambda tokens: form_of_expander(len(tokens[0][0]) if tokens else 1), text)


def word_problem(text):
    return problem_of(lambda tokens: form_of_word(), text)


def with_blanks(chance, text):
    """The same tokens with other blanks between them."""
    tokens = TOKEN.findall(text)
    told = chance.choice(["", " ", "\t"])
    for one, following in zip(tokens, tokens[1:] + [""]):
        told += one
        least = 1 if one.isalpha() and following.isalpha() or one.isdigit() and following.isdigit() else 0
        told += "".join(chance.choice(" \t") for _ in range(chance.randint(least, least + 2)))
    return told


def spoilt(chance, text):
    """A text with one character more, less, or another one."""
    at = chance.randint(0, len(text))
    piece = chance.choice(list("ab.:;,><! \t0129") + ["00", "10", "100", "A", "\n", "-", "~", "_", "x < . >"])
    kind = chance.choice(["put", "drop", "set", "cut"])
    if kind == "put":
        return text[:at] + piece + text[at:]
    if kind == "drop":
        return text[:at] + text[at + 1:]
    return text[:at] + piece + text[at + 1:] if kind == "set" else text[:at]


def drawn_texts(seed, many):
    chance = random.Random(seed)
    for _ in range(many):
        signs = chance.choice(["a", "ab", "abz", "klmn"])
        expander = drawn(chance, signs, chance.choice([1, 2, 3, 11]), gaps=0.3)
        yield chance, expander, format_expander(expander)


class DrawnTest(unittest.TestCase):
    def test_canonical_texts_are_read_back(self):
        for chance, expander, text in drawn_texts(91, 300):
            self.assertEqual(parse_expander(text), expander)
            self.assertEqual(parse_expander(with_blanks(chance, text)), expander)
            self.assertEqual(text, canonical(text))
            for word in (expander[1], *(last for _, last in expander[2] if last is not None)):
                self.assertEqual(parse_word(with_blanks(chance, format_word(word))), word)

    def test_spoilt_texts_by_a_second_reading(self):
        counts = {"fault": 0, "none": 0, "end": 0}
        for chance, _, text in drawn_texts(92, 250):
            if len(text) > 120:
                continue
            for turns in (1, 1, 2):
                bent = with_blanks(chance, text) if chance.random() < 0.5 else text
                for _ in range(turns):
                    bent = spoilt(chance, bent)
                right = expander_problem(bent)
                told = column(parse_expander, bent)
                self.assertEqual(told, None if right is None else (1, right), bent)
                counts["none" if right is None else "end" if right == len(bent) + 1 else "fault"] += 1
                if right is None:
                    self.check_read(bent)
        self.assertGreater(min(counts.values()), 50, counts)

    def check_read(self, text):
        try:
            told = parse_expander(text)
        except NoExpander:
            return
        self.assertEqual(format_expander(told), canonical(text))

    def test_spoilt_words_by_a_second_reading(self):
        chance = random.Random(93)
        for _ in range(1500):
            text = chance.choice([".", "ab", " abba ", "\t.", "z"])
            for _ in range(chance.randint(1, 3)):
                text = spoilt(chance, text)
            right = word_problem(text)
            self.assertEqual(column(parse_word, text), None if right is None else (1, right), text)
            if right is None:
                token = text.strip(" \t")
                self.assertEqual(parse_word(text), "" if token == "." else token)


def canonical(text):
    """The tokens of a text with one space between two, but none ahead of a comma or a semicolon."""
    return " ".join(TOKEN.findall(text)).replace(" ,", ",").replace(" ;", ";")


class WordTest(unittest.TestCase):
    def test_words(self):
        self.assertEqual(parse_word(" . "), "")
        self.assertEqual(parse_word("."), "")
        self.assertEqual(parse_word("ab"), "ab")
        self.assertEqual(parse_word("\tab \t "), "ab")
        self.assertEqual(parse_word("abcdefghijklmnopqrstuvwxyz"), "abcdefghijklmnopqrstuvwxyz")
        self.assertEqual(parse_word("z" * 5000), "z" * 5000)
        self.assertEqual((format_word(""), format_word("ab"), format_word("z")), (".", "ab", "z"))

    def test_problems(self):
        for text, at in [("", 1), (" ", 2), ("\t\t", 3), ("a b", 3), ("ab .", 4), ("..", 2), ("!", 1), (" !", 2),
                         ("a!", 2), ("7", 1), ("a7", 2), ("a 07", 3), ("A", 1), ("aB", 2), ("a\n", 2), ("\n", 1),
                         ("a;", 2), ("a -", 3), ("!A", 2), ("! ! 100", 5), ("a b c %", 7), (":", 1), ("a,b", 2)]:
            self.assertEqual(column(parse_word, text), (1, at), text)


class ExpanderTest(unittest.TestCase):
    def test_examples(self):
        self.assertEqual(parse_expander("ab .; . < bb > 0, b<.>0, . ;!, !,!"), (
            "ab", "", (((("", "bb", 0), ("b", "", 0)), ""), ((None, None), None))))
        self.assertEqual(format_expander(("a", "aa", (((("a", "", 0),), ""), ((None,), None)))),
                         "a aa; a < . > 0, .; !, !")
        self.assertEqual(format_expander(DOUBLE), "ab .; . < bb > 0, b < . > 0, .")
        self.assertEqual(format_expander(AHEAD), "ab .; . < . > 1, !, !; !, ab < . > 2, !; a < . > 2, !, b; !, !, a")
        for expander in EXPANDERS + [copier("abcd"), ladder(60)]:
            self.assertEqual(parse_expander(format_expander(expander)), expander)

    def test_no_and_many_blanks(self):
        right = ("a", "a", (((("a", "", 0),), ""),))
        for text in ["a a;a<.>0,.", " a\ta ; a < . > 0 , . ", "a\t \ta;\ta<.>0,.\t", "a a;a<.>0,."]:
            self.assertEqual(parse_expander(text), right)
        self.assertEqual(parse_expander("a.;a<.>0,a"), ("a", "", (((("a", "", 0),), "a"),)))
        # A row of digits ends where letters begin, but none can stand there.
        self.assertEqual(column(parse_expander, "a .; a < . > 0a, ."), (1, 15))

    def test_each_letter(self):
        for sign in "abcdefghijklmnopqrstuvwxyz":
            one = (sign, sign, (((("", sign * 2, 0),), sign),))
            self.assertEqual(format_expander(one), f"{sign} {sign}; . < {sign}{sign} > 0, {sign}")
            self.assertEqual(parse_expander(format_expander(one)), one)
            self.assertEqual(parse_word(sign), sign)

    def test_problems(self):
        for text, at in [
                ("", 1), ("  ", 3), ("ab", 3), ("ab ", 4), (". .", 1), ("ab .", 5), ("ab ;", 4), ("ab .;", 6),
                ("ab . .", 6), ("ab .; .", 8), ("ab .; !", 8), ("ab .; !,", 9), ("ab .; !, !, !,", 14),
                ("ab .; !, !, ! a", 15), ("ab .; !, !, !;", 15), ("ab .; !, !", 11), ("ab .; !, !,", 12),
                ("ab .; !, ! !", 12), ("a .; a > . > 0, .", 8), ("a .; a < ! > 0, .", 10), ("a .; a < . < 0, .", 12),
                ("a .; a < . > a, .", 14), ("a .; a < . > ., .", 14), ("a .; a < . > !, .", 14),
                ("a .; a < . > 0 .", 16), ("a .; a < . > 0, 0", 17), ("a 0; !, !", 3), ("a !; !, !", 3),
                ("a : !, !", 3), ("a .: !, !", 4), ("0 .; !, !", 1), ("a b c; !, !", 5), ("a .; ! < . > 0, .", 8),
                ("a .; . < . > 0, !, !", 18)]:
            self.assertEqual(column(parse_expander, text), (1, at), text)
            self.assertEqual(expander_problem(text), at, text)

    def test_tokens_that_are_none(self):
        text = "a .; a < . > 0, ."
        for piece in ("A", "\n", "-", "_", "%", "07", "00", "100", "0123456789", "'", '"', "(", "=", "+", "/", "?",
                      "~"):
            for at in range(len(text) + 1):
                if piece[0].isdigit() and "0" in text[max(at - 1, 0):at + 1]:
                    continue
                bent = text[:at] + piece + text[at:]
                self.assertEqual(column(parse_expander, bent), (1, at + 1), bent)
        # Of all tokens the first that is none, even if the text goes wrong ahead of it.
        for bent, at in [("! ! ! 00", 7), (". . ; A B", 7), ("a a a a 7 100 A", 11), ("\n a", 1),
                         ("a .; a < . > 00, A", 14)]:
            self.assertEqual(column(parse_expander, bent), (1, at), bent)

    def test_numbers(self):
        states = "; ".join(["a < . > {}, ."] + ["!, !"] * 59)
        for number in ("0", "1", "9", "10", "59"):
            self.assertEqual(parse_expander("a .; " + states.format(number))[2][0][0][0][2], int(number))
        for number in ("60", "99"):
            self.assertRaises(NoExpander, parse_expander, "a .; " + states.format(number))
        for number in ("00", "01", "010", "100", "123", "0" * 40):
            self.assertEqual(column(parse_expander, "a .; " + states.format(number)), (1, 14))
        # Two rows of digits are two tokens.
        self.assertEqual(column(parse_expander, "a .; " + states.format("1 0")), (1, 16))

    def test_sixty_states(self):
        for many in (1, 59, 60):
            self.assertEqual(len(parse_expander("a ." + "; !, a" * many)[2]), many)
        for many in (61, 62, 200):
            self.assertEqual(column(parse_expander, "a ." + "; !, a" * many), (1, len("a ." + "; !, a" * 60) + 1))
        self.assertEqual(column(parse_expander, "a ." + "; !, a" * 60 + "; A"), (1, len("a ." + "; !, a" * 60) + 3))
        self.assertEqual(column(parse_expander, "a ." + "; !, a" * 60 + " a"), (1, len("a ." + "; !, a" * 60) + 2))

    def test_what_is_told_is_no_expander(self):
        for text in ["ba .; !, !, !", "aa .; !, !, !", "abcde .; !, !, !, !, !, !", "a b; !, !", "a .; b < . > 0, !",
                     "a .; . < b > 0, !", "a .; !, b", "a .; . < . > 1, !", "a .; . < . > 99, !; !, !",
                     "abcdefghijklmnopqrstuvwxyz .; " + "!, " * 26 + "!", "a " + "a" * 2001 + "; !, !",
                     "a .; !, " + "a" * 2001]:
            self.assertRaises(NoExpander, parse_expander, text)
        # As many moves as the first row has letters, whatever letters.
        for text, at in [("aa .; !, !", 11), ("aa .; !, !, !, !", 14), ("abcde .; !, !, !, !, !", 23),
                         ("ba .; !, b > 0", 12)]:
            self.assertEqual(column(parse_expander, text), (1, at), text)
        self.assertTrue(is_expander(parse_expander("a " + "a" * 2000 + "; !, " + "a" * 2000)))

    def test_format_of_what_is_no_expander(self):
        for thing in NO_EXPANDERS:
            self.assertRaises(NoExpander, format_expander, thing)

    def test_canonical_texts(self):
        self.assertEqual(format_expander(FOUR), "bdxz zx; !, dd < x > 1, !, . < . > 0, !; !, !, !, !, b")
        self.assertEqual(format_expander(TOWER), "ar .; . < aaar > 1, !, .; . < aaar > 2, . < . > 0, .; "
                                                 "ar < . > 2, . < . > 1, .")


if __name__ == "__main__":
    unittest.main()
