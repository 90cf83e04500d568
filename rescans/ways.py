"""Which states are led to by the moves of a plain form."""


def reached_of(states):
    """The ascending list of the states that moves lead to from state 0."""
    return _led_to(_goals(states), [0])


def live_of(states):
    """The ascending list of the states from which moves lead to one that has a last."""
    return _led_to(states_before(states), ending(states))


def is_begun(states):
    """Whether state 0 is live."""
    return 0 in live_of(states)


def live_part(states):
    """The states with None in the place of each move to one that is not live."""
    live = live_of(states)
    told = []
    for moves, last in states:
        kept = [None if move is None or move[2] not in live else move for move in moves]
        told.append((tuple(kept), last))
    return tuple(told)


def states_before(states):
    """For each state the list of the states that have a move to it, once for each such move."""
    before = [[] for _ in states]
    for state, goals in enumerate(_goals(states)):
        for goal in goals:
            before[goal].append(state)
    return before


def ending(states):
    """The states that have a last."""
    return [state for state, (_, last) in enumerate(states) if last is not None]


def _goals(states):
    return [[move[2] for move in moves if move is not None] for moves, _ in states]


def _led_to(following, begin):
    found = {state: True for state in begin}
    waiting = list(begin)
    while waiting:
        now = waiting.pop()
        for state in following[now]:
            if state not in found:
                found[state] = True
                waiting.append(state)
    return sorted(found)
