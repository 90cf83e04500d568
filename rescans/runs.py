"""Runs, sign by sign: a stand is what is done, what stands in front, and the state."""

from rescans.errors import Mismatch, NoOutcome
from rescans.expanders import is_number, move_of, need_expander
from rescans.words import is_word, need_text


def begin(expander, text):
    """The stand with which the run of a text begins."""
    need_expander(expander)
    need_text(expander[0], text)
    return _first_stand(expander, text)


def step(expander, stand):
    """The stand behind a step; raises NoOutcome if there is no step."""
    need_expander(expander)
    if not _is_stand(expander, stand):
        raise Mismatch("this is no stand of the expander")
    _, front, state = stand
    if front == "":
        raise NoOutcome("ends", [])
    following = _next_stand(expander, stand)
    if following is None:
        raise NoOutcome("breaks", [(state, front[0])])
    return following


def stands(expander, text, *, most=100):
    """The first stands of the run of a text, at most so many."""
    need_expander(expander)
    need_text(expander[0], text)
    found = []
    stand = _first_stand(expander, text)
    while stand is not None and len(found) < most:
        found.append(stand)
        stand = _next_stand(expander, stand)
    return found


def _first_stand(expander, text):
    return (expander[1], text, 0)


def _next_stand(expander, stand):
    """The stand behind a step, or None if there is no step."""
    done, front, state = stand
    if front == "":
        return None
    move = move_of(expander, state, front[0])
    if move is None:
        return None
    return (done + move[0], move[1] + front[1:], move[2])


def _is_stand(expander, thing):
    if not isinstance(thing, tuple) or len(thing) != 3:
        return False
    signs, _, states = expander
    done, front, state = thing
    return is_word(signs, done) and is_word(signs, front) and is_number(len(states), state)
