"""Words and texts: strings of signs."""

from rescans.errors import NoText

MOST_TEXT = 200


def is_word(signs, thing):
    """Whether any object is a string all of whose characters are in signs."""
    # To strip leaves nothing only if no other character stands anywhere.
    return isinstance(thing, str) and thing.strip(signs) == ""


def is_text(signs, thing):
    """Whether any object is such a string with at most 200 characters."""
    return is_word(signs, thing) and len(thing) <= MOST_TEXT


def need_text(signs, thing):
    """Raises NoText if any object is no text of the signs."""
    if not is_text(signs, thing):
        raise NoText("this is no text of the signs")


def common(one, other):
    """The longest string with which both begin."""
    # The begins of states can be long, so halves are compared and not characters.
    low = 0
    high = min(len(one), len(other))
    while low < high:
        middle = (low + high + 1) // 2
        if one[low:middle] == other[low:middle]:
            low = middle
        else:
            high = middle - 1
    return one[:low]


def left_of(one, other):
    """What is left of both without their longest common beginning."""
    many = len(common(one, other))
    return (one[many:], other[many:])
