"""A second reading of the points: runs done step by step, and all texts up to a length."""

import itertools
import os


def texts(signs, most):
    """All texts with at most so many signs, in their order."""
    for many in range(most + 1):
        for parts in itertools.product(signs, repeat=many):
            yield "".join(parts)


def run_value(expander, state, sign, most):
    """The value of a call by its run; "breaks", or "endless" if there are more than so many steps."""
    signs, _, states = expander
    front, done, count = [sign], [], 0
    while front:
        move = states[state][0][signs.index(front.pop())]
        if move is None:
            return "breaks"
        count += 1
        if count > most:
            return "endless"
        done.append(move[0])
        front.extend(reversed(move[1]))
        state = move[2]
    return "".join(done), state


def most_steps(expander):
    """More steps than a call can take that comes to an end: no call is done within itself."""
    signs, _, states = expander
    widest = max([len(move[1]) for moves, _ in states for move in moves if move is not None] + [1])
    total, layer = 0, 1
    for _ in range(len(signs) * len(states) + 1):
        total += layer
        layer *= widest
    return total


def run_values(expander):
    """What run_value tells of all calls."""
    most = most_steps(expander)
    return {(state, sign): run_value(expander, state, sign, most)
            for state in range(len(expander[2])) for sign in expander[0]}


def sizes_by_rounds(expander):
    """The sizes and states of the values: in rounds, each of which looks at all calls."""
    signs, _, states = expander
    found, many = {}, -1
    while many < len(found):
        many = len(found)
        for state, (moves, _) in enumerate(states):
            for sign, move in zip(signs, moves):
                if move is not None and (state, sign) not in found:
                    size, now = len(move[0]), move[2]
                    for inner in move[1]:
                        if (now, inner) not in found:
                            break
                        size, now = size + found[now, inner][0], found[now, inner][1]
                    else:
                        found[state, sign] = size, now
    return found


def run_thread(expander, values, call):
    """The thread of a call by the words of point 5."""
    if isinstance(values[call], tuple):
        return []
    row = [call]
    while True:
        state, sign = row[-1]
        move = expander[2][state][0][expander[0].index(sign)]
        if move is None:
            return row
        state = move[2]
        for sign in move[1]:
            if not isinstance(values[state, sign], tuple):
                break
            state = values[state, sign][1]
        else:
            raise AssertionError("a call without a value needs another one")
        row.append((state, sign))
        if row.index((state, sign)) < len(row) - 1:
            return row


def run_plain(expander, values):
    signs, first, states = expander
    told = []
    for state, (_, last) in enumerate(states):
        found = [values[state, sign] for sign in signs]
        told.append((tuple((one[0], "", one[1]) if isinstance(one, tuple) else None for one in found), last))
    return signs, first, tuple(told)


def outcomes(plain, most, state=0):
    """All texts with at most so many signs that have an outcome, in their order, by a plain expander from a state on.

    The word first is left out for other states than 0.
    """
    signs, first, states = plain
    level = [("", first if state == 0 else "", state)]
    found = {}
    for _ in range(most + 1):
        following = []
        for text, done, now in level:
            moves, last = states[now]
            if last is not None:
                found[text] = done + last
            for sign, move in zip(signs, moves):
                if move is not None:
                    following.append((text + sign, done + move[0], move[2]))
        level = following
    return found


def first_apart(one, other):
    """The first text at which two tables of outcomes are apart, or None."""
    unlike = [text for text in {**one, **other} if one.get(text) != other.get(text)]
    return min(unlike, key=lambda text: (len(text), text), default=None)


def longest_begin(words):
    return os.path.commonprefix(list(words))


def least_by_outcomes(signs, table, many, most):
    """The least form, read off the outcomes of all texts with at most many + most signs alone.

    Two texts lead to one state if what comes behind them, up to so many signs, has the same outcomes without their
    begins; with so many states at most each one has a text with fewer than many signs.
    """
    def rest_of(text):
        found = {behind[len(text):]: word for behind, word in table.items()
                 if behind.startswith(text) and len(behind) <= len(text) + most}
        begin = longest_begin(found.values())
        return begin, tuple(sorted((behind, word[len(begin):]) for behind, word in found.items()))

    begin, rest = rest_of("")
    if not rest:
        return signs, "", (((None,) * len(signs), None),)
    first = begin
    order, numbers, states = [("", begin, rest)], {rest: 0}, []
    for text, begin, rest in order:
        moves = []
        for sign in signs:
            ahead, behind = rest_of(text + sign)
            if not behind:
                moves.append(None)
                continue
            if behind not in numbers:
                assert len(text) < many
                numbers[behind] = len(order)
                order.append((text + sign, ahead, behind))
            moves.append((ahead[len(begin):], "", numbers[behind]))
        states.append((tuple(moves), dict(rest).get("")))
    return signs, first, tuple(states)


def drawn(chance, signs, many, *, most_back=2, most_done=2, gaps=0.2, lasts=0.3):
    """An expander of so many states, drawn: gaps tells how many moves are None, lasts how many lasts are."""
    def word(most):
        return "".join(chance.choice(signs) for _ in range(chance.randint(0, most)))

    def move():
        if chance.random() < gaps:
            return None
        back = word(most_back) if chance.random() < 0.5 else ""
        return word(most_done), back, chance.randrange(many)

    states = tuple((tuple(move() for _ in signs), None if chance.random() < lasts else word(most_done))
                   for _ in range(many))
    return signs, word(most_done), states


def renumbered(chance, expander):
    """The same expander with its states, but for 0, in another order."""
    signs, first, states = expander
    order = list(range(1, len(states)))
    chance.shuffle(order)
    order = [0] + order
    numbers = {old: new for new, old in enumerate(order)}
    told = []
    for old in order:
        moves, last = states[old]
        told.append((tuple(move and (move[0], move[1], numbers[move[2]]) for move in moves), last))
    return signs, first, tuple(told)


def told_twice(chance, expander):
    """The same expander with one state told twice: some moves go to the one, some to the other."""
    signs, first, states = expander
    twin = chance.randrange(len(states))
    many = len(states)

    def moved(move):
        if move and move[2] == twin and chance.random() < 0.5:
            return move[0], move[1], many
        return move
    return signs, first, tuple((tuple(moved(move) for move in moves), last) for moves, last in states + (states[twin],))


def with_dead(chance, expander):
    """The same expander, plain, with a state behind which nothing has an outcome, in the place of some None."""
    signs, first, states = expander
    dead = len(states)

    def moved(move):
        return ("".join(chance.choices(signs, k=2)), "", dead) if move is None and chance.random() < 0.5 else move
    told = tuple((tuple(moved(move) for move in moves), last) for moves, last in states)
    return signs, first, told + ((tuple(chance.choice([None, (sign, "", dead)]) for sign in signs), None),)


def with_unreached(chance, expander):
    """The same expander, plain, with a state that no move leads to."""
    signs, first, states = expander
    moves = tuple((sign * 2, "", chance.randrange(len(states) + 1)) for sign in signs)
    return signs, first, states + ((moves, chance.choice([None, signs[0]])),)


def done_later(chance, expander):
    """The same expander, plain, where one sign is done behind a state instead of ahead of it, if that can be."""
    signs, first, states = expander
    late = chance.randrange(len(states))
    ahead = [move[0] for moves, _ in states for move in moves if move and move[2] == late] + [first] * (late == 0)
    ends = {word[-1:] for word in ahead}
    if len(ends) != 1 or ends == {""}:
        return expander
    sign = ends.pop()
    told = []
    for state, (moves, last) in enumerate(states):
        put = sign if state == late else ""
        moved = tuple(move and (put + (move[0][:-1] if move[2] == late and not put else move[0]), "", move[2])
                      for move in moves)
        if put:
            # A move from the state to itself does the sign at its front, and no more at its end.
            moved = tuple(move and (move[0][:-1] if move[2] == late else move[0], "", move[2]) for move in moved)
        told.append((moved, None if last is None else put + last))
    return signs, first[:-1] if late == 0 else first, tuple(told)


def by_steps(chance, expander):
    """The same expander, plain, where one move's word is done in two steps, by a state of its own."""
    signs, first, states = expander
    places = [(state, at) for state, (moves, _) in enumerate(states) for at, move in enumerate(moves) if move]
    if not places:
        return expander
    state, at = chance.choice(places)
    word, _, goal = states[state][0][at]
    cut = chance.randint(0, len(word))
    sign = chance.choice(signs)
    told = [[list(moves), last] for moves, last in states]
    told[state][0][at] = (word[:cut], sign, len(states))
    told.append([[(word[cut:], "", goal) if one == sign else None for one in signs], None])
    return signs, first, tuple((tuple(moves), last) for moves, last in told)


def otherwise(chance, plain, turns):
    """An expander that is alike to a plain one, told otherwise."""
    changes = [renumbered, told_twice, with_dead, with_unreached, done_later, done_later, done_later]
    for _ in range(turns):
        plain = chance.choice(changes)(chance, plain)
    if chance.random() < 0.5:
        plain = by_steps(chance, plain)
    return plain


def outcome_by(plain, text):
    """The outcome of a text of any length by a plain expander, or None."""
    signs, done, states = plain
    state = 0
    for sign in text:
        move = states[state][0][signs.index(sign)]
        if move is None:
            return None
        done, state = done + move[0], move[2]
    last = states[state][1]
    return None if last is None else done + last


def outcomes_behind(one, other, most):
    """The outcomes by a plain expander behind another one, of all texts with at most so many signs."""
    found = {text: outcome_by(other, word) for text, word in outcomes(one, most).items()}
    return {text: word for text, word in found.items() if word is not None}
