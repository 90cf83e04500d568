"""A console: commands about expanders that are kept under names, and about one live text."""

from rescans.alike import apart
from rescans.calls import outcome, value
from rescans.errors import InvalidCommand, NoMark, NoName
from rescans.expanders import LETTERS
from rescans.growth import rate
from rescans.least import least
from rescans.live import Live
from rescans.origins import origins
from rescans.rows import behind, settled
from rescans.sources import source
from rescans.texts import DIGITS, format_expander, format_word, parse_expander, parse_word
from rescans.words import is_word

MOST_NAME = 8
MOST_NUMBER = 1000000
# What stands behind the first word of each command; a new name need not have an expander.
FORMS = {
    "keep": ("new", "text"), "drop": ("name",), "names": (), "show": ("name",), "run": ("name", "text"),
    "call": ("name", "number", "sign"), "least": ("name",), "alike": ("name", "name"),
    "behind": ("new", "name", "name"), "settled": ("name",), "source": ("name", "text"), "rate": ("name",),
    "origins": ("name", "text"), "live": ("name", "text"), "set": ("number", "sign"), "put": ("number", "sign"),
    "cut": ("number",), "undo": (), "redo": (), "text": (), "outcome": (),
}
ABOUT_LIVE = ("set", "put", "cut", "undo", "redo", "text", "outcome")


def _show(things):
    return format_expander(things[0])


def _run(things):
    return format_word(outcome(things[0], parse_word(things[1])))


def _call(things):
    word, state = value(things[0], things[1], things[2])
    return f"{format_word(word)} {state}"


def _least(things):
    return format_expander(least(things[0]))


def _alike(things):
    text = apart(things[0], things[1])
    return "yes" if text is None else f"no : {format_word(text)}"


def _settled(things):
    return "yes" if settled(things[0]) else "no"


def _source(things):
    text = source(things[0], parse_word(things[1]))
    return "none" if text is None else format_word(text)


def _rate(things):
    mean = rate(things[0])
    return "none" if mean is None else f"{mean[0]}/{mean[1]}"


def _origins(things):
    return _joined([str(place) for place in origins(things[0], parse_word(things[1]))])


# The commands that change nothing: from expanders in the place of names, numbers, signs and texts to the answer.
ANSWERS = {
    "show": _show, "run": _run, "call": _call, "least": _least, "alike": _alike, "settled": _settled,
    "source": _source, "rate": _rate, "origins": _origins,
}


class Console:
    """Expanders under names, and one live text at most."""

    def __init__(self):
        self._kept = {}
        self._live = None

    def execute(self, line):
        """Does a command line and returns its answer."""
        command, things = _read_line(line)
        if command in ABOUT_LIVE:
            if self._live is None:
                raise NoMark("there is no live text")
            return _on_live(self._live, command, things)
        told = [self._expander_of(thing) if kind == "name" else thing for kind, thing in zip(FORMS[command], things)]
        if command == "names":
            return _joined(sorted(self._kept))
        if command in ANSWERS:
            answer = ANSWERS[command]
            return answer(told)
        if command == "keep":
            self._kept[told[0]] = parse_expander(told[1])
        elif command == "behind":
            self._kept[told[0]] = behind(told[1], told[2])
        elif command == "drop":
            del self._kept[things[0]]
        else:
            self._live = Live(told[0], parse_word(told[1]))
        return "ok"

    def _expander_of(self, name):
        if name not in self._kept:
            raise NoName("no expander is kept under this name")
        return self._kept[name]


def _on_live(live, command, things):
    """Does a command about a live text."""
    if command == "text":
        return format_word(live.text)
    if command == "outcome":
        return format_word(live.outcome())
    if command == "undo":
        live.undo()
    elif command == "redo":
        live.redo()
    elif command == "cut":
        live.do(("drop", things[0]))
    else:
        live.do((command, things[0], things[1]))
    return "ok"


def _joined(words):
    return " ".join(words) if words else "none"


def _read_line(line):
    """The first word of a line, and the list of what stands behind it; raises InvalidCommand."""
    head, mark, text = line.partition(" : ")
    words = head.split(" ")
    things = words[1:] + ([] if mark == "" else [text])
    kinds = FORMS.get(words[0])
    if kinds is None or len(kinds) != len(things) or (mark != "") != ("text" in kinds):
        raise InvalidCommand("the line is no command")
    if not all([_is_of(kind, thing) for kind, thing in zip(kinds, things)]):
        raise InvalidCommand("the line has another word than its command is told with")
    return (words[0], [int(thing) if kind == "number" else thing for kind, thing in zip(kinds, things)])


def _is_of(kind, thing):
    """Whether a string is of a kind of the forms."""
    if kind == "number":
        return _is_number(thing)
    if kind == "sign":
        return thing != ""
    return kind == "text" or is_word(LETTERS, thing) and 1 <= len(thing) <= MOST_NAME


def _is_number(word):
    if word == "" or word.strip(DIGITS) != "" or len(word) > len(str(MOST_NUMBER)):
        return False
    return word == "0" or word[0] != "0" and int(word) <= MOST_NUMBER
