"""Expanders and other objects that several tests take."""

DOUBLE = ("ab", "", (((("", "bb", 0), ("b", "", 0)), ""),))
LOOP = ("ab", "", (((("", "ba", 0), ("b", "", 0)), ""),))
SWAP = ("ab", "", (((("b", "", 0), ("a", "", 0)), ""),))
AHEAD = ("ab", "", (((("", "", 1), None), None), ((None, ("ab", "", 2)), None), ((("a", "", 2), None), "b"),
                    ((None, None), "a")))
TOWER = ("ar", "", (((("", "aaar", 1), None), ""), ((("", "aaar", 2), ("", "", 0)), ""),
                    ((("ar", "", 2), ("", "", 1)), "")))
STUCK = ("a", "a", (((("a", "", 0),), None),))
FOUR = ("bdxz", "zx", (((None, ("dd", "x", 1), None, ("", "", 0)), None), ((None, None, None, None), "b")))
EXPANDERS = [DOUBLE, LOOP, SWAP, AHEAD, TOWER, STUCK, FOUR]

# Objects of every kind, none of them an expander, a call, or a string.
ODD = [
    None, True, False, 0, 1, -1, 10 ** 12, -10 ** 12, (), [], {}, (None,), [None], {None: None}, ("", ""), (0, "a"),
    ("ab", "", ()), ["ab", "", []], {"ab": "", 0: {}}, ((((),),),), [[[]]], {"signs": "ab", "first": "", "states": ()},
    (True, False, None), ("ab", "", None), (("a", "", 0),), [("a", "", 0)], (((None,), None),),
]


def state_of(many):
    """A state with no moves of an expander with so many signs."""
    return ((None,) * many, None)


def places(thing):
    """The places of all tuples and members in a nested tuple, as tuples of indexes; () is the thing itself."""
    found = [()]
    if isinstance(thing, tuple):
        for at, part in enumerate(thing):
            found.extend((at, *rest) for rest in places(part))
    return found


def at_place(thing, place):
    for at in place:
        thing = thing[at]
    return thing


def replaced(thing, place, new):
    """A nested tuple with another object at a place."""
    if not place:
        return new
    parts = list(thing)
    parts[place[0]] = replaced(parts[place[0]], place[1:], new)
    return tuple(parts)
