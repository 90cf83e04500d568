"""The examples of the document, and its interface: each name in its own file, with its parameters."""

import ast
import doctest
import unittest
from pathlib import Path

ROOT = Path(__file__).resolve().parent.parent

# The parameters of a function; for a class those of its methods.
INTERFACE = {
    "errors": {
        "ScanError": {}, "TooMany": {"__init__": ["limit"]}, "SyntaxProblem": {"__init__": ["line", "column"]},
        "NoOutcome": {"__init__": ["kind", "thread"]}, "NoExpander": {}, "NoText": {}, "NoCall": {}, "NoName": {},
        "NoMark": {}, "Mismatch": {}, "InvalidCommand": {},
    },
    "words": {"is_word": ["signs", "thing"], "is_text": ["signs", "thing"], "common": ["one", "other"]},
    "expanders": {
        "is_expander": ["thing"], "need_expander": ["expander"], "is_plain": ["expander"],
        "made": ["signs", "first", "states"], "mover": ["expander", "state", "sign"], "copier": ["signs"],
    },
    "runs": {
        "begin": ["expander", "text"], "step": ["expander", "stand"], "stands": ["expander", "text", "*most"],
    },
    "calls": {
        "value": ["expander", "state", "sign"], "thread": ["expander", "state", "sign"], "values": ["expander"],
        "shows_thread": ["expander", "thing"], "plain": ["expander"], "outcome": ["expander", "text"],
        "ends_always": ["expander"],
    },
    "least": {
        "live_states": ["expander"], "reached_states": ["expander"], "begins": ["expander"], "least": ["expander"],
        "is_least": ["expander"],
    },
    "alike": {
        "alike": ["one", "other"], "ahead": ["one", "other"], "shows_alike": ["one", "other", "thing"],
        "apart": ["one", "other"],
    },
    "rows": {
        "behind": ["one", "other"], "settled": ["expander"], "unsettled": ["expander"],
        "change_places": ["one", "other"], "in_row": ["row"],
    },
    "sources": {
        "source": ["expander", "word"], "how_many": ["expander", "word"], "no_source": ["expander", "word"],
        "shows_no_source": ["expander", "word", "thing"], "sources": ["expander", "word"],
    },
    "growth": {
        "longest": ["expander", "size"], "rate": ["expander"], "rate_paper": ["expander"],
        "shows_rate": ["expander", "thing"],
    },
    "origins": {
        "origins": ["expander", "text"], "steps": ["expander", "text"], "held": ["expander", "text"],
    },
    "live": {
        "Live": {
            "__init__": ["expander", "text"], "expander": [], "text": [], "__len__": [], "__contains__": ["thing"],
            "__eq__": ["other"], "outcome": [], "state_at": ["place"], "stuck": [], "do": ["edit"],
            "all_done": ["edits"], "undo": [], "redo": [], "notes": [],
        },
    },
    "texts": {
        "parse_word": ["text"], "parse_expander": ["text"], "format_word": ["word"], "format_expander": ["expander"],
    },
    "console": {"Console": {"__init__": [], "execute": ["line"]}},
    "windows": {
        "sizes": ["expander"], "length": ["expander", "text"], "window": ["expander", "text", "start", "*many"],
        "path": ["expander", "text", "at"],
    },
}

EXAMPLES = '''
>>> from rescans.errors import NoOutcome, ScanError, TooMany
>>> from rescans.words import common, is_text, is_word
>>> [TooMany(60).limit, NoOutcome("breaks", [(0, "a")]).thread, isinstance(TooMany(1), ScanError), is_word("ab", "abba"), is_text("ab", "abc"), common("abab", "abb")]
[60, [(0, 'a')], True, True, False, 'ab']
>>> from rescans.expanders import copier, is_expander, is_plain, mover
>>> DOUBLE = ("ab", "", (((("", "bb", 0), ("b", "", 0)), ""),))
>>> [copier("ab"), is_plain(DOUBLE), mover(DOUBLE, 0, "a"), is_expander(("ba", "", ())), is_expander(("a", "b", (((None,), None),)))]
[('ab', '', (((('a', '', 0), ('b', '', 0)), ''),)), False, ('', 'bb', 0), False, False]
>>> from rescans.runs import begin, stands, step
>>> DOUBLE = ("ab", "", (((("", "bb", 0), ("b", "", 0)), ""),))
>>> [begin(DOUBLE, "ab"), step(DOUBLE, ("", "ab", 0)), stands(DOUBLE, "a"), len(stands(DOUBLE, "aa", most=3))]
[('', 'ab', 0), ('', 'bbb', 0), [('', 'a', 0), ('', 'bb', 0), ('b', 'b', 0), ('bb', '', 0)], 3]
>>> from rescans.calls import ends_always, outcome, plain, shows_thread, thread, value, values
>>> DOUBLE, LOOP = ("ab", "", (((("", "bb", 0), ("b", "", 0)), ""),)), ("ab", "", (((("", "ba", 0), ("b", "", 0)), ""),))
>>> [value(DOUBLE, 0, "a"), thread(LOOP, 0, "a"), values(LOOP), plain(DOUBLE), outcome(DOUBLE, "aba"), ends_always(LOOP)]
[('bb', 0), [(0, 'a'), (0, 'a')], {(0, 'a'): None, (0, 'b'): ('b', 0)}, ('ab', '', (((('bb', '', 0), ('b', '', 0)), ''),)), 'bbbbb', False]
>>> [shows_thread(LOOP, [(0, "a"), (0, "a")]), shows_thread(LOOP, [(0, "a")])]
[True, False]
>>> from rescans.least import begins, is_least, least, live_states, reached_states
>>> AHEAD = ("ab", "", (((("", "", 1), None), None), ((None, ("ab", "", 2)), None), ((("a", "", 2), None), "b"), ((None, None), "a")))
>>> [live_states(AHEAD), reached_states(AHEAD), begins(AHEAD)]
[[0, 1, 2, 3], [0, 1, 2], {0: 'ab', 1: 'ab', 2: '', 3: 'a'}]
>>> [least(AHEAD), is_least(least(AHEAD)), least(("a", "a", (((("a", "", 0),), None),)))]
[('ab', 'ab', (((('', '', 1), None), None), ((None, ('', '', 2)), None), ((('a', '', 2), None), 'b'))), True, ('a', '', (((None,), None),))]
>>> from rescans.alike import ahead, alike, apart, shows_alike
>>> from rescans.expanders import copier
>>> LATE = ("ab", "", (((("", "", 1), None), ""), ((("a", "", 1), None), "a")))
>>> [alike(LATE, copier("ab")), apart(LATE, copier("ab")), alike(LATE, ("ab", "", (((("a", "", 0), None), ""),)))]
[False, 'b', True]
>>> [ahead(LATE, ("ab", "", (((("a", "", 0), None), ""),))), ahead(LATE, copier("ab"))]
[{(0, 0): ('', ''), (1, 0): ('', 'a')}, None]
>>> from rescans.expanders import copier
>>> from rescans.rows import behind, change_places, in_row, settled, unsettled
>>> DOUBLE, SWAP = ("ab", "", (((("", "bb", 0), ("b", "", 0)), ""),)), ("ab", "", (((("b", "", 0), ("a", "", 0)), ""),))
>>> [behind(SWAP, SWAP) == copier("ab"), behind(DOUBLE, SWAP), settled(DOUBLE), unsettled(SWAP), change_places(DOUBLE, SWAP)]
[True, ('ab', '', (((('aa', '', 0), ('a', '', 0)), ''),)), True, 'a', False]
>>> in_row([SWAP, SWAP, SWAP])
('ab', '', (((('b', '', 0), ('a', '', 0)), ''),))
>>> from rescans.sources import how_many, no_source, shows_no_source, source, sources
>>> DOUBLE, DROP = ("ab", "", (((("", "bb", 0), ("b", "", 0)), ""),)), ("ab", "", (((("", "", 0), ("b", "", 0)), ""),))
>>> [source(DOUBLE, "bbb"), how_many(DOUBLE, "bbb"), list(sources(DOUBLE, "bbb")), no_source(DOUBLE, "ba"), how_many(DROP, "b")]
['ab', 3, ['ab', 'ba', 'bbb'], ((0, 0), (0, 1)), None]
>>> [shows_no_source(DOUBLE, "ba", ((0, 0), (0, 1))), shows_no_source(DOUBLE, "b", ((0, 0),))]
[True, False]
>>> from rescans.growth import longest, rate, rate_paper, shows_rate
>>> DOUBLE, HALF = ("ab", "", (((("", "bb", 0), ("b", "", 0)), ""),)), ("a", "", (((("", "", 1),), ""), ((("a", "", 0),), "")))
>>> [longest(DOUBLE, 3), rate(DOUBLE), rate(HALF), rate(("a", "", (((None,), "a"),))), rate_paper(HALF)[3]]
[(6, 'aaa'), (2, 1), (1, 2), None, {0: 0, 1: -1}]
>>> shows_rate(DOUBLE, ((2, 1), "", "a", {0: 0}))
True
>>> from rescans.origins import held, origins, steps
>>> DOUBLE, DROP = ("ab", "", (((("", "bb", 0), ("b", "", 0)), ""),)), ("ab", "", (((("", "", 0), ("b", "", 0)), "a"),))
>>> [origins(DOUBLE, "ba"), steps(DOUBLE, "ba"), origins(DROP, "aba"), held(DROP, "aba")]
[[0, 1, 1], 4, [1, 3], [0, 2]]
>>> from rescans.live import Live
>>> live = Live(("ab", "", (((("", "bb", 0), ("b", "", 0)), ""),)), "ab")
>>> [live.outcome(), live.do(("put", 0, "a")), live.text, live.outcome(), live.state_at(3), live.undo(), live.text, len(live), "b" in live]
['bbb', None, 'aab', 'bbbbb', 0, None, 'ab', 2, True]
>>> [live.redo(), live.notes(), live.do(("drop", 2)), live.do(("set", 0, "b")), live.text, live.stuck(), live == Live(live.expander, "ba")]
[None, [('put', 0, 'a')], None, None, 'ba', None, True]
>>> from rescans.texts import format_expander, format_word, parse_expander, parse_word
>>> parse_expander("ab .; . < bb > 0, b<.>0, . ;!, !,!")
('ab', '', (((('', 'bb', 0), ('b', '', 0)), ''), ((None, None), None)))
>>> [format_expander(("a", "aa", (((("a", "", 0),), ""), ((None,), None)))), parse_word(" . "), format_word("ab")]
['a aa; a < . > 0, .; !, !', '', 'ab']
>>> from rescans.console import Console
>>> console = Console()
>>> lines = ["keep x : ab .; . < bb > 0, b < . > 0, .", "run x : aba", "call x 0 a", "least x", "source x : bbb", "rate x", "settled x", "origins x : ba"]
>>> [console.execute(line) for line in lines]
['ok', 'bbbbb', 'bb 0', 'ab .; bb < . > 0, b < . > 0, .', 'ab', '2/1', 'yes', '0 1 1']
>>> [console.execute(line) for line in ["keep y : ab .; b < . > 0, a < . > 0, .", "alike x y", "behind z x y", "names", "live y : ab", "put 0 b", "text", "outcome", "undo", "text"]]
['ok', 'no : a', 'ok', 'x y z', 'ok', 'ok', 'bab', 'aba', 'ok', 'ab']
>>> from rescans.windows import length, path, sizes, window
>>> TOWER = ("ar", "", (((("", "aaar", 1), None), ""), ((("", "aaar", 2), ("", "", 0)), ""), ((("ar", "", 2), ("", "", 1)), "")))
>>> [sizes(TOWER)[(0, "a")], sizes(TOWER)[(2, "a")], sizes(TOWER)[(0, "r")], length(TOWER, "aa"), window(TOWER, "aa", 15, many=4)]
[(18, 0), (2, 2), None, 36, 'rara']
>>> [path(TOWER, "aa", 20), window(TOWER, "a", 18)]
[[(0, 'a'), (1, 'a'), (2, 'a')], '']
'''


def names_of(function, skipped):
    arguments = function.args
    return [one.arg for one in arguments.args][skipped:] + ["*" + one.arg for one in arguments.kwonlyargs]


class DocumentTest(unittest.TestCase):
    def test_examples(self):
        test = doctest.DocTestParser().get_doctest(EXAMPLES, {}, "examples", None, 0)
        told = []
        failed = doctest.DocTestRunner(verbose=False).run(test, out=told.append).failed
        self.assertEqual(failed, 0, "".join(told))

    def test_interface(self):
        for stem, names in INTERFACE.items():
            tree = ast.parse((ROOT / "rescans" / f"{stem}.py").read_text(encoding="utf-8"))
            defined = {node.name: node for node in tree.body if isinstance(node, (ast.FunctionDef, ast.ClassDef))}
            for name, told in names.items():
                with self.subTest(file=stem, name=name):
                    node = defined[name]
                    if isinstance(told, list):
                        self.assertIsInstance(node, ast.FunctionDef)
                        self.assertEqual(names_of(node, 0), told)
                        continue
                    self.assertIsInstance(node, ast.ClassDef)
                    methods = {one.name: one for one in node.body if isinstance(one, ast.FunctionDef)}
                    for method, parameters in told.items():
                        self.assertEqual(names_of(methods[method], 1), parameters)


if __name__ == "__main__":
    unittest.main()
