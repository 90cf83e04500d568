"""Live and reached states, begins, and least forms."""

from rescans.calls import plain_of
from rescans.errors import TooMany
from rescans.expanders import MOST_WORD, need_expander
from rescans.ways import ending, live_of, reached_of, states_before
from rescans.words import common


def live_states(expander):
    """The ascending list of the live states."""
    need_expander(expander)
    return live_of(plain_of(expander)[2])


def reached_states(expander):
    """The ascending list of the reached states."""
    need_expander(expander)
    return reached_of(plain_of(expander)[2])


def begins(expander):
    """The dict from the live states to the longest words with which all outcomes from them begin."""
    need_expander(expander)
    states = plain_of(expander)[2]
    found = begins_of(states)
    return {state: found[state] for state in sorted(found)}


def least(expander):
    """The least form; raises TooMany(2000) if it would have a longer word."""
    need_expander(expander)
    told = least_of(plain_of(expander))
    if longest_word(told) > MOST_WORD:
        raise TooMany(MOST_WORD)
    return told


def is_least(expander):
    """Whether an expander is its own least form."""
    need_expander(expander)
    return least_of(plain_of(expander)) == expander


def least_of(plain):
    """The least form of a plain form, however long its words are."""
    signs, first, states = plain
    live = live_of(states)
    if 0 not in live:
        return without_outcomes(signs)
    found = begins_of(states)
    early = {state: _early(found, states[state], found[state]) for state in reached_of(states) if state in found}
    return (signs, first + found[0], _told_in_order(early, _classes(early)))


def without_outcomes(signs):
    """The least form of all expanders in which no text has an outcome."""
    return (signs, "", (((None,) * len(signs), None),))


def longest_word(plain):
    """The number of signs of the longest word of a plain form."""
    _, first, states = plain
    lasts = [len(last) for _, last in states if last is not None]
    words = [len(move[0]) for moves, _ in states for move in moves if move is not None]
    return max([len(first)] + lasts + words)


def begins_of(states):
    """The dict from the live states of a plain form to their begins."""
    before = states_before(states)
    fresh = ending(states)
    found = {state: states[state][1] for state in fresh}
    # What is found for a state is the common beginning of some of its outcomes. Whenever that gets shorter, the
    # states ahead of it are looked at again; when nothing does any more, it is that of all outcomes. Ways with two
    # rounds apart from one another tell nothing new, so this takes about two turns for each state at most.
    while fresh:
        looked_at = sorted(set([state for goal in fresh for state in before[goal]]))
        fresh = []
        for state in looked_at:
            told = _common_begin(states[state], found)
            if told != found.get(state):
                found[state] = told
                fresh.append(state)
    return found


def _common_begin(state, found):
    """The longest word with which the last and all words of moves begin, with what is found for their next states."""
    moves, last = state
    told = last
    for move in moves:
        if move is not None and move[2] in found:
            word = move[0] + found[move[2]]
            told = word if told is None else common(told, word)
    return told


def _early(found, state, begin):
    """A state whose words are told as early as can be, without moves to states that are not live."""
    moves, last = state
    told = []
    for move in moves:
        if move is None or move[2] not in found:
            told.append(None)
        else:
            word = move[0] + found[move[2]]
            told.append((word[len(begin):], "", move[2]))
    return (tuple(told), None if last is None else last[len(begin):])


def _classes(early):
    """The dict from states to numbers, the same ones for states from which all texts have the same outcomes."""
    keys = {}
    for state, (moves, last) in early.items():
        keys[state] = (last, tuple([None if move is None else move[0] for move in moves]))
    classes = _numbers(keys)
    many = 0
    # Words are early, so states are unlike only where these, or the classes of the next states, are.
    while many < len(set(list(classes.values()))):
        many = len(set(list(classes.values())))
        keys = {}
        for state, (moves, _) in early.items():
            goals = tuple([None if move is None else classes[move[2]] for move in moves])
            keys[state] = (classes[state], goals)
        classes = _numbers(keys)
    return classes


def _numbers(keys):
    """The dict from states to numbers, the same ones for those that have the same key."""
    numbers = {}
    for key in keys.values():
        if key not in numbers:
            numbers[key] = len(numbers)
    return {state: numbers[key] for state, key in keys.items()}


def _told_in_order(early, classes):
    """The tuple of the states, one of each class, in the order in which the first texts come to them."""
    order = [0]
    numbers = {classes[0]: 0}
    place = 0
    while place < len(order):
        moves, _ = early[order[place]]
        for move in moves:
            if move is not None and classes[move[2]] not in numbers:
                numbers[classes[move[2]]] = len(order)
                order.append(move[2])
        place += 1
    told = []
    for state in order:
        moves, last = early[state]
        goals = [None if move is None else (move[0], "", numbers[classes[move[2]]]) for move in moves]
        told.append((tuple(goals), last))
    return tuple(told)
