"""Calls: their values, the threads of those that have none; plain forms and outcomes."""

from rescans.errors import NoOutcome, TooMany
from rescans.expanders import MOST_WORD, is_call, move_of, need_call, need_expander
from rescans.ways import reached_of
from rescans.words import need_text


def value(expander, state, sign):
    """The value of a call; raises NoOutcome if it has none."""
    need_expander(expander)
    need_call(expander, state, sign)
    found = values_of(expander)
    _need_value(expander, found, (state, sign))
    return found[(state, sign)]


def thread(expander, state, sign):
    """The thread of a call, [] if the call has a value."""
    need_expander(expander)
    need_call(expander, state, sign)
    return _thread_of(expander, values_of(expander), (state, sign))


def values(expander):
    """The dict from all calls to their values, None for a call without one."""
    need_expander(expander)
    found = values_of(expander)
    return {call: found.get(call) for call in all_calls(expander)}


def shows_thread(expander, thing):
    """Whether any object is the whole thread of its first call."""
    need_expander(expander)
    found = values_of(expander)
    if not isinstance(thing, list) or thing == []:
        return False
    # Each of them is looked at, since (True, "a") is equal to (1, "a"), but no call.
    if not all([_is_call_tuple(expander, one) for one in thing]):
        return False
    return thing == _thread_of(expander, found, thing[0])


def plain(expander):
    """The plain form."""
    need_expander(expander)
    return plain_of(expander)


def outcome(expander, text):
    """The outcome of a text; raises NoOutcome if it has none."""
    need_expander(expander)
    need_text(expander[0], text)
    return "".join(words_of_text(expander, values_of(expander), text))


def ends_always(expander):
    """Whether each text has an outcome."""
    need_expander(expander)
    states = plain_of(expander)[2]
    reached = [states[state] for state in reached_of(states)]
    return all([last is not None and None not in moves for moves, last in reached])


def words_of_text(expander, found, text):
    """The words that the outcome of a text is made of: first, that of each sign, and last; found is as of values_of."""
    calls, last = calls_of_text(expander, found, text)
    words = [expander[1]] + [found[call][0] for call in calls] + [last]
    if sum([len(word) for word in words]) > MOST_WORD:
        raise TooMany(MOST_WORD)
    return words


def calls_of_text(expander, found, text):
    """The calls of the signs of a text, and the last behind them; raises NoOutcome if the text has no outcome.

    The dict found is as that of values_of, or of sizes_of.
    """
    calls = []
    state = 0
    for sign in text:
        _need_value(expander, found, (state, sign))
        calls.append((state, sign))
        state = found[(state, sign)][1]
    last = expander[2][state][1]
    if last is None:
        raise NoOutcome("last", [])
    return (calls, last)


def sizes_of(expander):
    """The dict from the calls that have a value to (number of its word's signs, state).

    Each call stands behind all those that its run comes to.
    """
    found = {}
    opened = {}
    for call in all_calls(expander):
        _measure(expander, found, opened, call)
    return found


def values_of(expander):
    """The dict from the calls that have a value to it, in the order of sizes_of.

    Raises TooMany(2000) if a word of one is longer.
    """
    sizes = sizes_of(expander)
    if any([size > MOST_WORD for size, _ in sizes.values()]):
        raise TooMany(MOST_WORD)
    return short_values(expander, sizes)


def short_values(expander, sizes):
    """The dict from calls to their values, in the order of sizes_of, without those that are too long for a word."""
    found = {}
    for call, (size, _) in sizes.items():
        if size > MOST_WORD:
            continue
        # None of those that it is put together of is longer, so all of them are found.
        done, back, goal = move_of(expander, call[0], call[1])
        parts = [done]
        for inner in back:
            word, goal = found[(goal, inner)]
            parts.append(word)
        found[call] = ("".join(parts), goal)
    return found


def plain_of(expander):
    """The plain form of what is an expander; raises TooMany(2000) as values_of."""
    signs, first, states = expander
    found = values_of(expander)
    told = []
    for state, (_, last) in enumerate(states):
        moves = [_plain_move(found.get((state, sign))) for sign in signs]
        told.append((tuple(moves), last))
    return (signs, first, tuple(told))


def _plain_move(told):
    if told is None:
        return None
    word, goal = told
    return (word, "", goal)


def all_calls(expander):
    """The ascending list of the calls of an expander."""
    signs, _, states = expander
    return [(state, sign) for state in range(len(states)) for sign in signs]


def _is_call_tuple(expander, thing):
    return isinstance(thing, tuple) and len(thing) == 2 and is_call(expander, thing[0], thing[1])


def _measure(expander, found, opened, call):
    """Puts the sizes of a call, and of all that its run comes to, into found."""
    row = []
    # Runs are too long to be done, so each call is read once. One that is opened and not found is in the row itself,
    # or has no value: none of the row has one then, since each of them waits for the next one.
    while call is not None and call not in opened:
        opened[call] = True
        move = move_of(expander, call[0], call[1])
        if move is None:
            return
        row.append((call, 0, len(move[0]), move[2]))
        call = _read_on(expander, found, row)


def _read_on(expander, found, row):
    """Reads the backs of the calls in the row, the last one first, to a call that is not found; None if all are read.

    The row holds for each call the place in its back, the number of signs done so far, and the state.
    """
    while row:
        call, place, size, state = row.pop()
        back = move_of(expander, call[0], call[1])[1]
        while place < len(back) and (state, back[place]) in found:
            more, state = found[(state, back[place])]
            size += more
            place += 1
        if place < len(back):
            row.append((call, place, size, state))
            return (state, back[place])
        found[call] = (size, state)
    return None


def _need_value(expander, found, call):
    """Raises NoOutcome if a call is not among those that have a value."""
    if call not in found:
        told = _thread_of(expander, found, call)
        state, sign = told[-1]
        kind = "breaks" if move_of(expander, state, sign) is None else "endless"
        raise NoOutcome(kind, told)


def _thread_of(expander, found, call):
    """The thread of a call, where found holds all calls that have a value."""
    row = []
    if call in found:
        return row
    while call is not None and call not in row:
        row.append(call)
        call = _first_without(expander, found, call)
    return row if call is None else row + [call]


def _first_without(expander, found, call):
    """The first call without a value that the back of a call without one is read by; None if there is no move."""
    move = move_of(expander, call[0], call[1])
    if move is None:
        return None
    _, back, state = move
    place = 0
    while (state, back[place]) in found:
        state = found[(state, back[place])][1]
        place += 1
    return (state, back[place])
