"""One expander behind another one, and what follows from it: settled ones, and two that can change places."""

from rescans.alike import apart_of
from rescans.errors import Mismatch, TooMany
from rescans.expanders import MOST_STATES, MOST_WORD, need_expander, need_pair, need_same_signs
from rescans.least import least, least_of, longest_word, without_outcomes
from rescans.ways import is_begun, live_part

MOST_PAIRS = 400


def behind(one, other):
    """The least form of other behind one; raises TooMany(400), (60) or (2000) if it is too large."""
    need_pair(one, other)
    return _behind(least(one), least(other))


def settled(expander):
    """Whether each outcome is its own outcome; raises as behind."""
    # It gives an outcome to no text that it does not give one to when it stands alone.
    return behind(expander, expander) == least(expander)


def unsettled(expander):
    """The first text with an outcome that is not its own outcome, or None; raises as behind."""
    twice = behind(expander, expander)
    return apart_of(least(expander), twice)


def change_places(one, other):
    """Whether it is the same which of two expanders is behind the other one; raises as behind."""
    return behind(one, other) == behind(other, one)


def in_row(row):
    """The least form of a list of expanders, each behind the one ahead of it; each step raises as behind."""
    if not isinstance(row, list) or row == []:
        raise Mismatch("this is no list of expanders")
    for thing in row:
        need_expander(thing)
    for thing in row:
        need_same_signs(row[0], thing)
    # What the values of any of them raise comes ahead of too many pairs or states in a step, so no step is done yet.
    forms = [least(thing) for thing in row]
    told = forms[0]
    for other in forms[1:]:
        told = _behind(told, other)
    return told


def _behind(one, other):
    """The least form of other behind one, both least forms, as far as it is not too large."""
    told = least_of(_joined(one, other))
    if longest_word(told) > MOST_WORD:
        raise TooMany(MOST_WORD)
    if len(told[2]) > MOST_STATES:
        raise TooMany(MOST_STATES)
    return told


def _joined(one, other):
    """A plain form, with a state for each pair that is met, that is alike to other behind one, both least forms."""
    signs, first, _ = one
    begun = _read(other, 0, first)
    if begun is None:
        return without_outcomes(signs)
    states = live_part(_met(one, other, (0, begun[1])))
    if not is_begun(states):
        return without_outcomes(signs)
    done = [other[1]] + begun[0]
    _need_short_words(done, states)
    return (signs, "".join(done), tuple([_with_words(state) for state in states]))


def _read(form, state, word):
    """What a plain form does for a word from a state on, as a list of words, and the state then; None if it breaks."""
    signs, _, states = form
    done = []
    for sign in word:
        move = states[state][0][signs.index(sign)]
        if move is None:
            return None
        done.append(move[0])
        state = move[2]
    return (done, state)


def _met(one, other, begin):
    """The states of a plain form for the pairs that are met, in the order in which the first texts come to them.

    What is done is told as lists of words: put together they can be too long.
    """
    pairs = [begin]
    numbers = {begin: 0}
    told = []
    while len(told) < len(pairs):
        state, goal = pairs[len(told)]
        moves = []
        for move in one[2][state][0]:
            link = None if move is None else _read(other, goal, move[0])
            if link is None:
                moves.append(None)
                continue
            pair = (move[2], link[1])
            if pair not in numbers:
                if len(pairs) == MOST_PAIRS:
                    raise TooMany(MOST_PAIRS)
                numbers[pair] = len(pairs)
                pairs.append(pair)
            moves.append((link[0], "", numbers[pair]))
        told.append((moves, _last_behind(other, goal, one[2][state][1])))
    return tuple(told)


def _last_behind(other, state, last):
    """What other does in a state for the last of the one ahead of it, and then for its own, as a list of words."""
    link = None if last is None else _read(other, state, last)
    if link is None:
        return None
    own = other[2][link[1]][1]
    return None if own is None else link[0] + [own]


def _need_short_words(first, states):
    """Raises TooMany(2000) for words so long that the least form must have a longer one than it may.

    They are not put together then: such a word can be longer than a million signs. No form has done more behind a
    text than the least one, which does it in one word for each sign, and first.
    """
    room = {0: MOST_WORD - _size(first)}
    for number, (moves, last) in enumerate(states):
        for move in moves:
            if move is not None:
                _need_room(room[number], move[0])
                room.setdefault(move[2], room[number] + MOST_WORD - _size(move[0]))
        if last is not None:
            _need_room(room[number], last)


def _need_room(room, done):
    if room + MOST_WORD < _size(done):
        raise TooMany(MOST_WORD)


def _size(words):
    return sum([len(word) for word in words])


def _with_words(state):
    """A state with words in the place of lists of words."""
    moves, last = state
    told = [None if move is None else ("".join(move[0]), "", move[2]) for move in moves]
    return (tuple(told), None if last is None else "".join(last))
