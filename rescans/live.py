"""Live texts: a text of an expander that is changed by edits, which can be undone and done again."""

from rescans.calls import values_of, words_of_text
from rescans.errors import Mismatch, NoMark, NoText
from rescans.expanders import is_number, is_sign, need_expander
from rescans.words import MOST_TEXT, need_text

# How many things the tuple of an edit has.
EDITS = {"set": 3, "put": 3, "drop": 2}


class Live:
    """A live text."""

    def __init__(self, expander, text):
        need_expander(expander)
        need_text(expander[0], text)
        self._expander = expander
        self._text = text
        # The edits that are done, each with the text ahead of it; those that can be done again with that behind it.
        self._done = []
        self._undone = []
        # The values of the calls are worked out when they are asked for first: they can be too long.
        self._values = None

    @property
    def expander(self):
        """The expander."""
        return self._expander

    @property
    def text(self):
        """The text as it is now."""
        return self._text

    def __len__(self):
        return len(self._text)

    def __contains__(self, thing):
        return isinstance(thing, str) and len(thing) == 1 and thing in self._text

    def __eq__(self, other):
        return isinstance(other, Live) and self._expander == other._expander and self._text == other._text

    def outcome(self):
        """The outcome of the text; raises NoOutcome if it has none."""
        return "".join(words_of_text(self._expander, self._known_values(), self._text))

    def state_at(self, place):
        """The state in which the sign at a place is met, or None if a call ahead of it has no value."""
        if not is_number(len(self._text) + 1, place):
            raise NoText("this is no place of the text, nor its length")
        states = self._states()
        return states[place] if place < len(states) else None

    def stuck(self):
        """The place of the first sign whose call has no value, or None."""
        states = self._states()
        return None if len(states) > len(self._text) else len(states) - 1

    def do(self, edit):
        """Does an edit."""
        self._keep(edit, edited(self._expander[0], self._text, edit))

    def all_done(self, edits):
        """Does the edits of a list one after the other, or none of them if one is refused."""
        if not isinstance(edits, list):
            raise Mismatch("this is no list of edits")
        texts = [self._text]
        for edit in edits:
            texts.append(edited(self._expander[0], texts[-1], edit))
        for edit, text in zip(edits, texts[1:]):
            self._keep(edit, text)

    def undo(self):
        """Undoes the last edit that is done."""
        if self._done == []:
            raise NoMark("there is no edit to undo")
        edit, text = self._done.pop()
        self._undone.append((edit, self._text))
        self._text = text

    def redo(self):
        """Does the edit again that was undone last."""
        if self._undone == []:
            raise NoMark("there is no edit to do again")
        edit, text = self._undone.pop()
        self._done.append((edit, self._text))
        self._text = text

    def notes(self):
        """The list of the edits that are done."""
        return [edit for edit, _ in self._done]

    def _keep(self, edit, text):
        self._done.append((edit, self._text))
        self._undone = []
        self._text = text

    def _known_values(self):
        if self._values is None:
            self._values = values_of(self._expander)
        return self._values

    def _states(self):
        """The states in which the signs are met, up to one whose call has no value, or else to that behind all."""
        found = self._known_values()
        states = [0]
        for sign in self._text:
            if (states[-1], sign) not in found:
                return states
            states.append(found[(states[-1], sign)][1])
        return states


def edited(signs, text, edit):
    """A text behind any object as an edit; raises Mismatch or NoText if it is refused."""
    if not _is_edit(edit):
        raise Mismatch("this is no edit")
    word = edit[0]
    place = edit[1]
    if not is_number(len(text) + (1 if word == "put" else 0), place):
        raise NoText("this is no place of the text")
    if word == "drop":
        return text[:place] + text[place + 1:]
    sign = edit[2]
    if not is_sign(signs, sign):
        raise NoText("this is no sign of the expander")
    if word == "set":
        return text[:place] + sign + text[place + 1:]
    if len(text) == MOST_TEXT:
        raise NoText("the text would be too long")
    return text[:place] + sign + text[place:]


def _is_edit(thing):
    if not isinstance(thing, tuple) or thing == () or not isinstance(thing[0], str):
        return False
    return EDITS.get(thing[0]) == len(thing)
