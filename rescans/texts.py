"""Words and expanders as texts, read and told."""

from rescans.errors import SyntaxProblem
from rescans.expanders import LETTERS, MOST_STATES, need_expander

BLANKS = " \t"
DIGITS = "0123456789"
MARKS = ".:;,><!"
EMPTY = "."
NONE = "!"
# The kinds of the tokens that are no marks; a mark is its own kind.
ROW = "row"
NUMBER = "number"
END = "end"


class Reader:
    """The tokens of a text, taken one after the other."""

    def __init__(self, text):
        self._tokens = _tokens_of(text)
        self._place = 0

    def meets(self, kind):
        """Whether the next token is of a kind."""
        return self._tokens[self._place][0] == kind

    def take(self, kinds):
        """The next token; raises SyntaxProblem if it is of none of the kinds."""
        kind, told, column = self._tokens[self._place]
        if kind not in kinds:
            raise SyntaxProblem(1, column)
        # The end is taken last.
        self._place += 1
        return told


def parse_word(text):
    """The word that a text tells; raises SyntaxProblem."""
    reader = Reader(text)
    word = _word_from(reader)
    reader.take((END,))
    return word


def parse_expander(text):
    """The expander that a text tells; raises SyntaxProblem, then NoExpander."""
    reader = Reader(text)
    signs = reader.take((ROW,))
    first = _word_from(reader)
    reader.take((";",))
    states = [_state_from(reader, len(signs))]
    while reader.meets(";") and len(states) < MOST_STATES:
        reader.take((";",))
        states.append(_state_from(reader, len(signs)))
    reader.take((END,))
    expander = (signs, first, tuple(states))
    need_expander(expander)
    return expander


def format_word(word):
    """The canonical text of a word."""
    return EMPTY if word == "" else word


def format_expander(expander):
    """The canonical text of an expander."""
    need_expander(expander)
    signs, first, states = expander
    told = [f"{signs} {format_word(first)}"]
    for moves, last in states:
        parts = [_format_move(move) for move in moves]
        parts.append(NONE if last is None else format_word(last))
        told.append(", ".join(parts))
    return "; ".join(told)


def _format_move(move):
    if move is None:
        return NONE
    done, back, goal = move
    return f"{format_word(done)} < {format_word(back)} > {goal}"


def _word_from(reader, others=()):
    """A word, or None for ! if this is among the other kinds that may be taken."""
    token = reader.take((ROW, EMPTY) + others)
    if token == NONE:
        return None
    return "" if token == EMPTY else token


def _state_from(reader, many):
    """A state with so many moves."""
    moves = []
    while len(moves) < many:
        moves.append(_move_from(reader))
        reader.take((",",))
    return (tuple(moves), _word_from(reader, (NONE,)))


def _move_from(reader):
    done = _word_from(reader, (NONE,))
    if done is None:
        return None
    reader.take(("<",))
    back = _word_from(reader)
    reader.take((">",))
    return (done, back, int(reader.take((NUMBER,))))


def _tokens_of(text):
    """The tokens, each as (kind, token, column), and the end; raises SyntaxProblem at the first that is none."""
    found = []
    place = 0
    while place < len(text):
        here = text[place]
        token = _row_at(text, place)
        if here in LETTERS:
            found.append((ROW, token, place + 1))
        elif here in MARKS:
            found.append((here, token, place + 1))
        elif _is_number(token):
            found.append((NUMBER, token, place + 1))
        elif here not in BLANKS:
            raise SyntaxProblem(1, place + 1)
        place += len(token)
    found.append((END, "", len(text) + 1))
    return found


def _row_at(text, place):
    """The row of letters or of digits that begins at a place, as long as it goes; of all others one character."""
    end = place + 1
    for kind in (LETTERS, DIGITS):
        while text[place] in kind and end < len(text) and text[end] in kind:
            end += 1
    return text[place:end]


def _is_number(token):
    if token.strip(DIGITS) != "":
        return False
    return token == "0" or token[0] != "0" and len(token) <= 2
