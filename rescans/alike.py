"""Whether two expanders are alike, the papers that they are, and where they are apart."""

from rescans.calls import plain_of
from rescans.errors import TooMany
from rescans.expanders import MOST_WORD, is_number, need_pair
from rescans.least import least_of
from rescans.ways import is_begun, live_part
from rescans.words import is_word, left_of


def alike(one, other):
    """Whether two expanders are alike."""
    need_pair(one, other)
    return are_alike(plain_of(one), plain_of(other))


def ahead(one, other):
    """The paper that two expanders are alike, or None if they are not."""
    need_pair(one, other)
    one = plain_of(one)
    other = plain_of(other)
    if not are_alike(one, other):
        return None
    paper = _paper(one, other, MOST_WORD)
    if paper is None:
        raise TooMany(MOST_WORD)
    return paper


def shows_alike(one, other, thing):
    """Whether any object is the paper that two expanders are alike."""
    need_pair(one, other)
    one = plain_of(one)
    other = plain_of(other)
    if not _has_form(one, other, thing) or not are_alike(one, other):
        return False
    most = max([len(word) for words in thing.values() for word in words], default=0)
    paper = _paper(one, other, most)
    # The keys of a paper are ascending, but dicts can be equal in another order.
    return paper is not None and paper == thing and list(paper) == list(thing)


def apart(one, other):
    """The first text at which two expanders are apart, or None if they are alike."""
    need_pair(one, other)
    return apart_of(plain_of(one), plain_of(other))


def are_alike(one, other):
    """Whether two plain forms are alike."""
    return least_of(one) == least_of(other)


def apart_of(one, other):
    """The first text at which two plain forms are apart, or None if they are alike."""
    if are_alike(one, other):
        return None
    both = (live_part(one[2]), live_part(other[2]))
    pair = (0 if is_begun(one[2]) else None, 0 if is_begun(other[2]) else None)
    level = [("", pair, _still_left(pair, one[1], other[1]))]
    met = {}
    # The texts of one length after the other. Not alike, they are apart at one with less than 240 signs, or so many
    # more as there are more than 60 states.
    found = None
    while found is None:
        found = _first_apart(both, level)
        level = _next_level(one[0], both, met, level)
    return found


def _paper(one, other, most):
    """The paper of two plain forms that are alike, or None if one of its words would have more than so many signs."""
    if not is_begun(one[2]):
        return {}
    both = (live_part(one[2]), live_part(other[2]))
    found = {(0, 0): left_of(one[1], other[1])}
    waiting = [(0, 0)]
    while waiting:
        pair = waiting.pop()
        if max([len(word) for word in found[pair]]) > most:
            return None
        links = _links(both, pair, found[pair])
        for goal, left in links:
            if None not in goal and goal not in found:
                found[goal] = left
                waiting.append(goal)
    return {pair: found[pair] for pair in sorted(found)}


def _has_form(one, other, thing):
    """Whether any object is a dict from pairs of states to pairs of words."""
    if not isinstance(thing, dict):
        return False
    pairs = all([_is_pair(key) and is_number(len(one[2]), key[0]) and is_number(len(other[2]), key[1])
                 for key in thing])
    signs = one[0]
    return pairs and all([_is_pair(words) and is_word(signs, words[0]) and is_word(signs, words[1])
                          for words in thing.values()])


def _is_pair(thing):
    return isinstance(thing, tuple) and len(thing) == 2


def _links(both, pair, left):
    """For each sign the pair of the next states, None for one without a move, and what is left there."""
    found = []
    for at in range(len(both[0][0][0])):
        word, goal = _move_at(both[0], pair[0], at)
        other_word, other_goal = _move_at(both[1], pair[1], at)
        goals = (goal, other_goal)
        if left is None:
            found.append((goals, None))
        else:
            found.append((goals, _still_left(goals, left[0] + word, left[1] + other_word)))
    return found


def _move_at(states, state, at):
    move = None if state is None else states[state][0][at]
    return ("", None) if move is None else (move[0], move[2])


def _still_left(pair, one, other):
    """What is left of two words that are done, or None if no two outcomes from the pair of states are the same."""
    left = left_of(one, other)
    return None if None in pair or "" not in left else left


def _first_apart(both, level):
    """The first text of a level at which both are apart, or None."""
    for text, pair, left in level:
        lasts = [None if state is None else states[state][1] for states, state in zip(both, pair)]
        if lasts != [None, None]:
            if left is None or None in lasts or left[0] + lasts[0] != left[1] + lasts[1]:
                return text
    return None


def _next_level(signs, both, met, level):
    """The texts with one sign more that can be the first ones at which both are apart, with their pairs."""
    found = []
    for text, pair, left in level:
        for sign, (goals, after) in zip(signs, _links(both, pair, left)):
            known = met.setdefault(goals, [])
            # Behind one pair a text makes outcomes the same for one left pair of words at most. So of three that are
            # unlike, the first two are apart behind a first text wherever the third one is.
            if goals != (None, None) and after not in known and len(known) < 2:
                known.append(after)
                found.append((text + sign, goals, after))
    return found
