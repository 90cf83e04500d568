"""The examples of the document, and its interface: each name in its own file, with its parameters."""

import ast
import doctest
import unittest
from pathlib import Path

ROOT = Path(__file__).resolve().parent.parent

# The parameters of a function; for a class those of its methods.
INTERFACE = {
    "errors": {
        "ScanError": {}, "TooMany": {"__init__": ["limit"]}, "SyntaxProblem": {"__init__": ["line", "column"]},
        "NoOutcome": {"__init__": ["kind", "thread"]}, "NoExpander": {}, "NoText": {}, "NoCall": {}, "NoName": {},
        "NoMark": {}, "Mismatch": {}, "InvalidCommand": {},
    },
    "words": {"is_word": ["signs", "thing"], "is_text": ["signs", "thing"], "common": ["one", "other"]},
    "expanders": {
        "is_expander": ["thing"], "need_expander": ["expander"], "is_plain": ["expander"],
        "made": ["signs", "first", "states"], "mover": ["expander", "state", "sign"], "copier": ["signs"],
    },
    "runs": {
        "begin": ["expander", "text"], "step": ["expander", "stand"], "stands": ["expander", "text", "*most"],
    },
    "calls": {
        "value": ["expander", "state", "sign"], "thread": ["expander", "state", "sign"], "values": ["expander"],
        "shows_thread": ["expander", "thing"], "plain": ["expander"], "outcome": ["expander", "text"],
        "ends_always": ["expander"],
    },
    "least": {
        "live_states": ["expander"], "reached_states": ["expander"], "begins": ["expander"], "least": ["expander"],
        "is_least": ["expander"],
    },
    "alike": {
        "alike": ["one", "other"], "ahead": ["one", "other"], "shows_alike": ["one", "other", "thing"],
        "apart": ["one", "other"],
    },
}

EXAMPLES = '''
>>> from rescans.errors import NoOutcome, ScanError, TooMany
>>> from rescans.words import common, is_text, is_word
>>> [TooMany(60).limit, NoOutcome("breaks", [(0, "a")]).thread, isinstance(TooMany(1), ScanError), is_word("ab", "abba"), is_text("ab", "abc"), common("abab", "abb")]
[60, [(0, 'a')], True, True, False, 'ab']
>>> from rescans.expanders import copier, is_expander, is_plain, mover
>>> DOUBLE = ("ab", "", (((("", "bb", 0), ("b", "", 0)), ""),))
>>> [copier("ab"), is_plain(DOUBLE), mover(DOUBLE, 0, "a"), is_expander(("ba", "", ())), is_expander(("a", "b", (((None,), None),)))]
[('ab', '', (((('a', '', 0), ('b', '', 0)), ''),)), False, ('', 'bb', 0), False, False]
>>> from rescans.runs import begin, stands, step
>>> DOUBLE = ("ab", "", (((("", "bb", 0), ("b", "", 0)), ""),))
>>> [begin(DOUBLE, "ab"), step(DOUBLE, ("", "ab", 0)), stands(DOUBLE, "a"), len(stands(DOUBLE, "aa", most=3))]
[('', 'ab', 0), ('', 'bbb', 0), [('', 'a', 0), ('', 'bb', 0), ('b', 'b', 0), ('bb', '', 0)], 3]
>>> from rescans.calls import ends_always, outcome, plain, shows_thread, thread, value, values
>>> DOUBLE, LOOP = ("ab", "", (((("", "bb", 0), ("b", "", 0)), ""),)), ("ab", "", (((("", "ba", 0), ("b", "", 0)), ""),))
>>> [value(DOUBLE, 0, "a"), thread(LOOP, 0, "a"), values(LOOP), plain(DOUBLE), outcome(DOUBLE, "aba"), ends_always(LOOP)]
[('bb', 0), [(0, 'a'), (0, 'a')], {(0, 'a'): None, (0, 'b'): ('b', 0)}, ('ab', '', (((('bb', '', 0), ('b', '', 0)), ''),)), 'bbbbb', False]
>>> [shows_thread(LOOP, [(0, "a"), (0, "a")]), shows_thread(LOOP, [(0, "a")])]
[True, False]
>>> from rescans.least import begins, is_least, least, live_states, reached_states
>>> AHEAD = ("ab", "", (((("", "", 1), None), None), ((None, ("ab", "", 2)), None), ((("a", "", 2), None), "b"), ((None, None), "a")))
>>> [live_states(AHEAD), reached_states(AHEAD), begins(AHEAD)]
[[0, 1, 2, 3], [0, 1, 2], {0: 'ab', 1: 'ab', 2: '', 3: 'a'}]
>>> [least(AHEAD), is_least(least(AHEAD)), least(("a", "a", (((("a", "", 0),), None),)))]
[('ab', 'ab', (((('', '', 1), None), None), ((None, ('', '', 2)), None), ((('a', '', 2), None), 'b'))), True, ('a', '', (((None,), None),))]
>>> from rescans.alike import ahead, alike, apart, shows_alike
>>> from rescans.expanders import copier
>>> LATE = ("ab", "", (((("", "", 1), None), ""), ((("a", "", 1), None), "a")))
>>> [alike(LATE, copier("ab")), apart(LATE, copier("ab")), alike(LATE, ("ab", "", (((("a", "", 0), None), ""),)))]
[False, 'b', True]
>>> [ahead(LATE, ("ab", "", (((("a", "", 0), None), ""),))), ahead(LATE, copier("ab"))]
[{(0, 0): ('', ''), (1, 0): ('', 'a')}, None]
'''


def names_of(function, skipped):
    arguments = function.args
    return [one.arg for one in arguments.args][skipped:] + ["*" + one.arg for one in arguments.kwonlyargs]


class DocumentTest(unittest.TestCase):
    def test_examples(self):
        test = doctest.DocTestParser().get_doctest(EXAMPLES, {}, "examples", None, 0)
        told = []
        failed = doctest.DocTestRunner(verbose=False).run(test, out=told.append).failed
        self.assertEqual(failed, 0, "".join(told))

    def test_interface(self):
        for stem, names in INTERFACE.items():
            tree = ast.parse((ROOT / "rescans" / f"{stem}.py").read_text(encoding="utf-8"))
            defined = {node.name: node for node in tree.body if isinstance(node, (ast.FunctionDef, ast.ClassDef))}
            for name, told in names.items():
                with self.subTest(file=stem, name=name):
                    node = defined[name]
                    if isinstance(told, list):
                        self.assertIsInstance(node, ast.FunctionDef)
                        self.assertEqual(names_of(node, 0), told)
                        continue
                    self.assertIsInstance(node, ast.ClassDef)
                    methods = {one.name: one for one in node.body if isinstance(one, ast.FunctionDef)}
                    for method, parameters in told.items():
                        self.assertEqual(names_of(methods[method], 1), parameters)


if __name__ == "__main__":
    unittest.main()
