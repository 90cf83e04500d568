"""Expanders: what they are, how they are made, and their moves."""

from rescans.errors import Mismatch, NoCall, NoExpander
from rescans.words import is_word

LETTERS = "abcdefghijklmnopqrstuvwxyz"
MOST_SIGNS = 4
MOST_STATES = 60
MOST_WORD = 2000


def is_expander(thing):
    """Whether any object is an expander."""
    if not isinstance(thing, tuple) or len(thing) != 3:
        return False
    signs, first, states = thing
    return _are_signs(signs) and _is_short_word(signs, first) and _are_states(signs, states)


def need_expander(expander):
    """Raises NoExpander if any object is no expander."""
    if not is_expander(expander):
        raise NoExpander("this is no expander")


def is_plain(expander):
    """Whether no move of an expander puts anything back."""
    need_expander(expander)
    states = expander[2]
    return all([move is None or move[1] == "" for state in states for move in state[0]])


def made(signs, first, states):
    """The expander of these parts; raises NoExpander if they make none."""
    expander = (signs, first, states)
    need_expander(expander)
    return expander


def mover(expander, state, sign):
    """The move for a call, or None; raises NoCall if state and sign are no call."""
    need_expander(expander)
    need_call(expander, state, sign)
    return move_of(expander, state, sign)


def copier(signs):
    """The plain expander with one state that gives each text itself."""
    if not _are_signs(signs):
        raise NoExpander("these are no signs of an expander")
    moves = tuple([(sign, "", 0) for sign in signs])
    return (signs, "", ((moves, ""),))


def need_pair(one, other):
    """Raises NoExpander if one of any two objects is no expander, then Mismatch if they have not the same signs."""
    need_expander(one)
    need_expander(other)
    need_same_signs(one, other)


def need_same_signs(one, other):
    """Raises Mismatch if two expanders have not the same signs."""
    if one[0] != other[0]:
        raise Mismatch("the expanders have not the same signs")


def need_call(expander, state, sign):
    """Raises NoCall if any objects are no state and sign of an expander."""
    if not is_call(expander, state, sign):
        raise NoCall("this is no call of the expander")


def is_call(expander, state, sign):
    """Whether any objects are a state and a sign of an expander."""
    signs, _, states = expander
    return is_number(len(states), state) and is_sign(signs, sign)


def is_sign(signs, thing):
    """Whether any object is one of the signs."""
    # A longer string, and the empty one, can stand in signs, too.
    return isinstance(thing, str) and len(thing) == 1 and thing in signs


def is_number(many, thing):
    """Whether any object is an integer from 0 on below many."""
    return is_whole(thing) and 0 <= thing < many


def is_whole(thing):
    """Whether any object is an integer."""
    # True and False are ints in Python, but no integers of the document.
    return isinstance(thing, int) and not isinstance(thing, bool)


def move_of(expander, state, sign):
    """The move for what is a call, or None."""
    return expander[2][state][0][expander[0].index(sign)]


def _are_signs(thing):
    if not is_word(LETTERS, thing) or not 1 <= len(thing) <= MOST_SIGNS:
        return False
    return list(thing) == sorted(set(thing))


def _is_short_word(signs, thing):
    return is_word(signs, thing) and len(thing) <= MOST_WORD


def _are_states(signs, thing):
    if not isinstance(thing, tuple) or not 1 <= len(thing) <= MOST_STATES:
        return False
    return all([_is_state(signs, len(thing), state) for state in thing])


def _is_state(signs, many, thing):
    if not isinstance(thing, tuple) or len(thing) != 2:
        return False
    moves, last = thing
    if not isinstance(moves, tuple) or len(moves) != len(signs):
        return False
    if last is not None and not _is_short_word(signs, last):
        return False
    return all([move is None or _is_move(signs, many, move) for move in moves])


def _is_move(signs, many, thing):
    if not isinstance(thing, tuple) or len(thing) != 3:
        return False
    done, back, goal = thing
    if not _is_short_word(signs, done) or not _is_short_word(signs, back):
        return False
    return is_number(many, goal)
