"""Expanders and other objects that several tests take, and what they raise."""

from rescans.errors import NoOutcome, TooMany

DOUBLE = ("ab", "", (((("", "bb", 0), ("b", "", 0)), ""),))
LOOP = ("ab", "", (((("", "ba", 0), ("b", "", 0)), ""),))
SWAP = ("ab", "", (((("b", "", 0), ("a", "", 0)), ""),))
AHEAD = ("ab", "", (((("", "", 1), None), None), ((None, ("ab", "", 2)), None), ((("a", "", 2), None), "b"),
                    ((None, None), "a")))
TOWER = ("ar", "", (((("", "aaar", 1), None), ""), ((("", "aaar", 2), ("", "", 0)), ""),
                    ((("ar", "", 2), ("", "", 1)), "")))
STUCK = ("a", "a", (((("a", "", 0),), None),))
FOUR = ("bdxz", "zx", (((None, ("dd", "x", 1), None, ("", "", 0)), None), ((None, None, None, None), "b")))
EXPANDERS = [DOUBLE, LOOP, SWAP, AHEAD, TOWER, STUCK, FOUR]

# Objects of every kind, none of them an expander, a call, or a string.
ODD = [
    None, True, False, 0, 1, -1, 10 ** 12, -10 ** 12, (), [], {}, (None,), [None], {None: None}, ("", ""), (0, "a"),
    ("ab", "", ()), ["ab", "", []], {"ab": "", 0: {}}, ((((),),),), [[[]]], {"signs": "ab", "first": "", "states": ()},
    (True, False, None), ("ab", "", None), (("a", "", 0),), [("a", "", 0)], (((None,), None),),
]


def limit(function, *arguments):
    """The limit of TooMany, or None if it is not raised."""
    try:
        function(*arguments)
    except TooMany as error:
        return error.limit
    return None


def thrown(function, *arguments, **more):
    """What kind and thread NoOutcome has, or the limit of TooMany, or what is returned."""
    try:
        return function(*arguments, **more)
    except NoOutcome as error:
        return error.kind, error.thread
    except TooMany as error:
        return error.limit


def state_of(many):
    """A state with no moves of an expander with so many signs."""
    return ((None,) * many, None)


def places(thing):
    """The places of all tuples and members in a nested tuple, as tuples of indexes; () is the thing itself."""
    found = [()]
    if isinstance(thing, tuple):
        for at, part in enumerate(thing):
            found.extend((at, *rest) for rest in places(part))
    return found


def at_place(thing, place):
    for at in place:
        thing = thing[at]
    return thing


def replaced(thing, place, new):
    """A nested tuple with another object at a place."""
    if not place:
        return new
    parts = list(thing)
    parts[place[0]] = replaced(parts[place[0]], place[1:], new)
    return tuple(parts)


def ladder(many, word=""):
    """An expander whose call (0, "a") takes more than 3 ** (many - 1) steps; it does word at the last one of each row.

    A state's "a" is read three times in the next state, and "r" goes back to the state ahead.
    """
    states = []
    for state in range(many):
        back = ("", "aaar", state + 1) if state + 1 < many else ("", "", state)
        states.append(((back, (word, "", max(0, state - 1))), ""))
    return "ar", "", tuple(states)


def chain(many, end):
    """An expander of so many states of four signs: each call's back is the next call, the last one's move is end."""
    signs = "abcd"
    states = []
    for state in range(many):
        moves = [("", "b", state), ("", "c", state), ("", "d", state), ("", "a", state + 1)]
        if state == many - 1:
            moves[3] = end
        states.append((tuple(moves), ""))
    return signs, "", tuple(states)


def of_size(size, *, last=""):
    """An expander whose call (0, "a") has a value of so many signs, from 1,000 to 3,000, put together of two words."""
    return "ab", "", (((("a" * 1000, "b", 0), ("b" * (size - 1000), "", 0)), last),)


NO_EXPANDERS = ODD + [list(DOUBLE), DOUBLE + ("",), replaced(DOUBLE, (2, 0, 0, 0, 2), True), "ab", ""]
