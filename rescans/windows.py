"""Outcomes that can be too long to be written: their lengths, parts, and the paths of their signs."""

from rescans.calls import all_calls, calls_of_text, short_values, sizes_of
from rescans.errors import NoText
from rescans.expanders import MOST_WORD, is_number, is_whole, move_of, need_expander
from rescans.words import need_text

# A piece of an outcome is a tuple (number of its signs, call, word): the call that does it and "", or None and a word.


def sizes(expander):
    """The dict from all calls to (number of the signs of the value's word, state), None for one without a value."""
    need_expander(expander)
    found = sizes_of(expander)
    return {call: found.get(call) for call in all_calls(expander)}


def length(expander, text):
    """The number of the signs of an outcome."""
    _, pieces = _read(expander, text)
    return _size(pieces)


def window(expander, text, start, *, many=50):
    """The signs of an outcome from a place on, at most so many."""
    found, pieces = _read(expander, text)
    _need_place(start)
    if not is_number(MOST_WORD + 1, many):
        raise NoText("this is no number of signs that can be told")
    short = short_values(expander, found)
    told = []
    ahead = start
    left = many
    waiting = list(reversed(pieces))
    # A piece is opened only if it has more signs than a window: of each row of pieces the two at the window's ends.
    while waiting and left > 0:
        size, call, word = waiting.pop()
        if size <= ahead:
            ahead -= size
        elif call is None or call in short:
            whole = word if call is None else short[call][0]
            told.append(whole[ahead:ahead + left])
            left -= len(told[-1])
            ahead = 0
        else:
            waiting.extend(list(reversed(_pieces_of(expander, found, call))))
    return "".join(told)


def path(expander, text, at):
    """The path of the sign of an outcome at a place."""
    found, pieces = _read(expander, text)
    _need_place(at)
    if at >= _size(pieces):
        raise NoText("the outcome has no sign at this place")
    calls = []
    piece, ahead = _piece_at(pieces, at)
    while piece[1] is not None:
        calls.append(piece[1])
        piece, ahead = _piece_at(_pieces_of(expander, found, piece[1]), ahead)
    return calls


def _read(expander, text):
    """The sizes of all calls that have a value, and the pieces of the outcome of any object as a text."""
    need_expander(expander)
    need_text(expander[0], text)
    found = sizes_of(expander)
    calls, last = calls_of_text(expander, found, text)
    pieces = [_piece_of_word(expander[1])] + [(found[call][0], call, "") for call in calls] + [_piece_of_word(last)]
    return (found, pieces)


def _piece_of_word(word):
    return (len(word), None, word)


def _pieces_of(expander, found, call):
    """The pieces of what a call does: its own word, and the calls that its back is read by."""
    done, back, state = move_of(expander, call[0], call[1])
    pieces = [_piece_of_word(done)]
    for sign in back:
        size, goal = found[(state, sign)]
        pieces.append((size, (state, sign), ""))
        state = goal
    return pieces


def _piece_at(pieces, at):
    """The piece that the sign at a place belongs to, and its place in it."""
    number = 0
    while pieces[number][0] <= at:
        at -= pieces[number][0]
        number += 1
    return (pieces[number], at)


def _size(pieces):
    return sum([size for size, _, _ in pieces])


def _need_place(thing):
    if not is_whole(thing) or thing < 0:
        raise NoText("this is no place of an outcome")
