"""How much texts grow: the longest outcomes of a size, and the greatest mean of rounds, with papers for it."""

from math import gcd

from rescans.calls import plain_of
from rescans.errors import NoText
from rescans.expanders import is_number, is_whole, need_expander
from rescans.ways import is_begun, live_part, reached_of
from rescans.words import MOST_TEXT, is_text


def longest(expander, size):
    """The greatest length of an outcome of the texts with so many signs, and the least such text; or None."""
    need_expander(expander)
    if not is_number(MOST_TEXT + 1, size):
        raise NoText("this is no size of a text")
    signs, first, states = plain_of(expander)
    # The row at a number has for each state the most that texts with so many signs do from it on, or None.
    rows = [[None if last is None else len(last) for _, last in states]]
    while len(rows) <= size:
        rows.append([_most_behind(moves, rows[-1]) for moves, _ in states])
    if rows[size][0] is None:
        return None
    state = 0
    text = []
    for many in range(size, 0, -1):
        at = _first_of_most(states[state][0], rows[many - 1], rows[many][state])
        text.append(signs[at])
        state = states[state][0][at][2]
    return (len(first) + rows[size][0], "".join(text))


def rate(expander):
    """The greatest mean of the rounds, as a fraction, or None if there is no round."""
    need_expander(expander)
    return _rate_of(_lines_of(plain_of(expander)))


def rate_paper(expander):
    """A paper for the rate: (rate, lead, round, bounds); None if there is no round."""
    need_expander(expander)
    form = plain_of(expander)
    lines = _lines_of(form)
    mean = _rate_of(lines)
    if mean is None:
        return None
    bounds = _bounds_of(lines, len(form[1]), mean)
    state, turn = _round_of(lines, bounds, mean)
    return (mean, _lead_to(lines, state), turn, bounds)


def shows_rate(expander, thing):
    """Whether any object is a paper for the rate."""
    need_expander(expander)
    form = plain_of(expander)
    lines = _lines_of(form)
    mean = _rate_of(lines)
    if not isinstance(thing, tuple) or len(thing) != 4:
        return False
    told, lead, turn, bounds = thing
    # Nothing is the rate if there is no round.
    if not _is_pair_of_numbers(told) or told != mean:
        return False
    if not is_text(form[0], lead) or not is_text(form[0], turn) or turn == "":
        return False
    if not _is_round_behind(lines, lead, turn, mean):
        return False
    return _are_bounds(bounds) and list(bounds.items()) == list(_bounds_of(lines, len(form[1]), mean).items())


def _most_behind(moves, row):
    """The most that is done by one of the moves and then by what the row tells of its next state, or None."""
    found = [len(move[0]) + row[move[2]] for move in moves if move is not None and row[move[2]] is not None]
    return max(found, default=None)


def _first_of_most(moves, row, most):
    """The place of the first move of those with which so much is done."""
    at = 0
    while _most_behind([moves[at]], row) != most:
        at += 1
    return at


def _lines_of(form):
    """The dict from the reached live states, ascending, to their moves to one another: (sign, signs done, state)."""
    signs, _, states = form
    if not is_begun(states):
        return {}
    states = live_part(states)
    lines = {}
    for state in reached_of(states):
        lines[state] = [(sign, len(move[0]), move[2]) for sign, move in zip(signs, states[state][0])
                        if move is not None]
    return lines


def _rate_of(lines):
    """The greatest mean of the rounds, in lowest terms, or None if there is no round."""
    many = len(lines)
    rows = [{0: 0} if lines else {}]
    while len(rows) <= many:
        rows.append(_one_sign_more(lines, rows[-1]))
    best = None
    # A text with as many signs as there are states has a round in it, and this is the greatest mean by Karp's theorem.
    for state, size in rows[many].items():
        least = None
        for at, row in enumerate(rows[:many]):
            if state in row and (least is None or _is_above(least, (size - row[state], many - at))):
                least = (size - row[state], many - at)
        if best is None or _is_above(least, best):
            best = least
    return None if best is None else _lowest(best)


def _one_sign_more(lines, row):
    """The dict from states to the most that is done up to them, with one sign more than for the states of the row."""
    found = {}
    for state, size in row.items():
        for _, more, goal in lines[state]:
            if goal not in found or found[goal] < size + more:
                found[goal] = size + more
    return found


def _is_above(one, other):
    """Whether a fraction is greater than another one."""
    return one[0] * other[1] > other[0] * one[1]


def _lowest(fraction):
    many = gcd(fraction[0], fraction[1])
    return (fraction[0] // many, fraction[1] // many)


def _bounds_of(lines, size, mean):
    """The dict from the reached live states, ascending, to their bounds; size is that of first."""
    found = {0: mean[1] * size}
    waiting = [0]
    # No round is above the greatest mean, so this ends.
    while waiting:
        state = waiting.pop(0)
        for _, more, goal in lines[state]:
            bound = found[state] + _gain(mean, more)
            if goal not in found or found[goal] < bound:
                found[goal] = bound
                if goal not in waiting:
                    waiting.append(goal)
    return {state: found[state] for state in lines}


def _gain(mean, size):
    """What a move that does so many signs adds to a bound."""
    return mean[1] * size - mean[0]


def _round_of(lines, bounds, mean):
    """A state and a round of it with the greatest mean."""
    # A round has the greatest mean if and only if each of its moves comes to the bound of its next state.
    tight = {}
    for state, moves in lines.items():
        tight[state] = [(sign, goal) for sign, more, goal in moves if bounds[state] + _gain(mean, more) == bounds[goal]]
    kept = list(lines)
    many = len(kept) + 1
    while len(kept) < many:
        many = len(kept)
        kept = [state for state in kept if any([goal in kept for _, goal in tight[state]])]
    # Each state that is kept has such a move to one that is, too.
    state = kept[0]
    walk = []
    text = ""
    while state not in walk:
        walk.append(state)
        sign, state = [link for link in tight[state] if link[1] in kept][0]
        text = text + sign
    return (state, text[walk.index(state):])


def _lead_to(lines, state):
    """The first text that leads state 0 to a state by live states."""
    leads = {0: ""}
    waiting = [0]
    while state not in leads:
        now = waiting.pop(0)
        for sign, _, goal in lines[now]:
            if goal not in leads:
                leads[goal] = leads[now] + sign
                waiting.append(goal)
    return leads[state]


def _is_pair_of_numbers(thing):
    return isinstance(thing, tuple) and len(thing) == 2 and is_whole(thing[0]) and is_whole(thing[1])


def _is_round_behind(lines, lead, turn, mean):
    """Whether a text leads by live states to a state of which another one is a round with this mean."""
    begin = _walk(lines, 0, lead)
    end = None if begin is None else _walk(lines, begin[1], turn)
    return end is not None and end[1] == begin[1] and _lowest((end[0], len(turn))) == mean


def _walk(lines, state, text):
    """The number of signs that a text does from a state on by live states, and the state then; None if it breaks."""
    size = 0
    for sign in text:
        links = [(more, goal) for one, more, goal in lines[state] if one == sign]
        if links == []:
            return None
        size += links[0][0]
        state = links[0][1]
    return (size, state)


def _are_bounds(thing):
    if not isinstance(thing, dict):
        return False
    return all([is_whole(key) for key in thing]) and all([is_whole(bound) for bound in thing.values()])
