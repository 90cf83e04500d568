"""Sources of a word: the texts whose outcome it is, and papers that it has none."""

from rescans.calls import plain_of
from rescans.expanders import is_number, need_expander
from rescans.words import need_text

# A pair (state, place) tells that a text comes to the state, and has done as many signs of the word as place tells.


def source(expander, word):
    """The least source of a word, or None."""
    form = _form_for(expander, word)
    net = _net_of(form, word)
    ends = _ends_of(form, word, net)
    # The net has its pairs in the order of the first texts that come to them.
    return _first_text(net, ends[0]) if ends else None


def how_many(expander, word):
    """The number of sources of a word, None if there are more than any number."""
    form = _form_for(expander, word)
    net = _net_of(form, word)
    ends = _ends_of(form, word, net)
    ways = _ways_to(_useful(net, ends))
    return None if ways is None else sum([ways[pair] for pair in ends])


def no_source(expander, word):
    """The paper with the fewest pairs that a word has no source, or None if it has one."""
    form = _form_for(expander, word)
    net = _net_of(form, word)
    # Each paper has all pairs that texts come to.
    return None if _ends_of(form, word, net) else tuple(sorted(net))


def shows_no_source(expander, word, thing):
    """Whether any object is a paper that a word has no source."""
    form = _form_for(expander, word)
    if not isinstance(thing, tuple) or not all([_is_pair(form, word, one) for one in thing]):
        return False
    if list(thing) != sorted(set(thing)):
        return False
    begin = (0, len(form[1]))
    if not word.startswith(form[1]):
        return thing == ()
    known = {pair: True for pair in thing}
    if begin not in known or _ends_of(form, word, known):
        return False
    return all([goal in known for pair in thing for _, goal in _moves_from(form, word, pair)])


def sources(expander, word):
    """Generates all sources of a word in their order, each as soon as it is found."""
    form = _form_for(expander, word)
    net = _net_of(form, word)
    ends = _ends_of(form, word, net)
    many = len(form[2])
    begin = len(form[1])
    links = _links_of(_useful(net, ends), many)
    # The places of each state are the bits of a number. Each row of rests has those from which texts of one length
    # end, the row at 0 those of the empty text; met has those that texts of as many signs come to.
    rests = [_bits(ends, many)]
    met = _bits([(0, begin)], many) if ends else []
    while any(met):
        if _has(rests[-1][0], begin):
            yield from _texts_behind(links, rests, begin)
        rests.append(_one_sign_ahead(links, rests[-1]))
        met = _one_sign_behind(links, met)


def _form_for(expander, word):
    """The plain form of any object that is an expander, for any object that is a word with at most 200 signs."""
    need_expander(expander)
    need_text(expander[0], word)
    return plain_of(expander)


def _net_of(form, word):
    """The dict from the pairs that texts come to, in the order of their first texts, to (sign, pair) for each move."""
    net = {}
    waiting = [(0, len(form[1]))] if word.startswith(form[1]) else []
    known = {pair: True for pair in waiting}
    while len(net) < len(waiting):
        pair = waiting[len(net)]
        net[pair] = _moves_from(form, word, pair)
        for _, goal in net[pair]:
            if goal not in known:
                known[goal] = True
                waiting.append(goal)
    return net


def _moves_from(form, word, pair):
    """For each move from a pair that does what stands in the word there the sign and the next pair."""
    signs, _, states = form
    state, place = pair
    found = []
    for sign, move in zip(signs, states[state][0]):
        if move is not None and word.startswith(move[0], place):
            found.append((sign, (move[2], place + len(move[0]))))
    return found


def _ends_of(form, word, pairs):
    """Those of the pairs at which a text ends that is a source, in their order."""
    return [pair for pair in pairs if form[2][pair[0]][1] == word[pair[1]:]]


def _is_pair(form, word, thing):
    if not isinstance(thing, tuple) or len(thing) != 2:
        return False
    return is_number(len(form[2]), thing[0]) and is_number(len(word) + 1, thing[1])


def _first_text(net, pair):
    """The first text that comes to a pair."""
    ahead = {list(net)[0]: None}
    for one, moves in net.items():
        for sign, goal in moves:
            if goal not in ahead:
                ahead[goal] = (one, sign)
    signs = []
    while ahead[pair] is not None:
        pair, sign = ahead[pair]
        signs.append(sign)
    return "".join(reversed(signs))


def _useful(net, ends):
    """The part of a net from which moves lead to an end."""
    before = {pair: [] for pair in net}
    for one, moves in net.items():
        for _, goal in moves:
            before[goal].append(one)
    known = {pair: True for pair in ends}
    waiting = list(ends)
    while waiting:
        pair = waiting.pop()
        for one in before[pair]:
            if one not in known:
                known[one] = True
                waiting.append(one)
    return {one: [link for link in net[one] if link[1] in known] for one in net if one in known}


def _ways_to(net):
    """The dict from the pairs of a net to the number of texts that come to them, None if there is a round."""
    missing = {pair: 0 for pair in net}
    for moves in net.values():
        for _, goal in moves:
            missing[goal] += 1
    # All pairs are behind the first one, so only this one can have no move to it.
    waiting = [pair for pair in net if missing[pair] == 0]
    ways = {pair: 1 for pair in waiting}
    while waiting:
        pair = waiting.pop()
        for _, goal in net[pair]:
            ways[goal] = ways.get(goal, 0) + ways[pair]
            missing[goal] -= 1
            if missing[goal] == 0:
                waiting.append(goal)
    return None if any(list(missing.values())) else ways


def _links_of(net, many):
    """For each state the moves of a net: (sign, the bits of the places that have it, signs done, next state)."""
    found = {}
    for (state, place), moves in net.items():
        for sign, (goal, after) in moves:
            bits, size, _ = found.get((state, sign), (0, after - place, goal))
            found[(state, sign)] = (bits | (1 << place), size, goal)
    links = [[] for _ in range(many)]
    for state, sign in sorted(found):
        bits, size, goal = found[(state, sign)]
        links[state].append((sign, bits, size, goal))
    return links


def _bits(pairs, many):
    """For each state the places of some pairs, as the bits of a number."""
    found = [0] * many
    for state, place in pairs:
        found[state] = found[state] | (1 << place)
    return found


def _has(bits, place):
    return (bits >> place) & 1 == 1


def _one_sign_ahead(links, rest):
    """The pairs from which one sign leads to those of rest."""
    found = []
    for moves in links:
        bits = 0
        for _, places, size, goal in moves:
            bits = bits | ((rest[goal] >> size) & places)
        found.append(bits)
    return found


def _one_sign_behind(links, met):
    """The pairs to which one sign leads from those that are met."""
    found = [0] * len(links)
    for moves, bits in zip(links, met):
        for _, places, size, goal in moves:
            found[goal] = found[goal] | (bits & places) << size
    return found


def _texts_behind(links, rests, begin):
    """Generates the sources with one sign less than there are rows of rests, ascending."""
    many = len(rests) - 1
    taken = []
    waiting = [(0, "", 0, begin)]
    while waiting:
        depth, sign, state, place = waiting.pop()
        # What is in front of the first sign is the empty word at place 0.
        del taken[depth:]
        taken.append(sign)
        if depth == many:
            yield "".join(taken)
        else:
            left = rests[many - depth - 1]
            for ahead, places, size, goal in reversed(links[state]):
                if _has(places, place) and _has(left[goal], place + size):
                    waiting.append((depth + 1, ahead, goal, place + size))
