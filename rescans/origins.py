"""From where the signs of an outcome come, and how many steps a run has."""

from rescans.calls import calls_of_text, values_of, words_of_text
from rescans.errors import TooMany
from rescans.expanders import move_of, need_expander
from rescans.words import need_text

MOST_STEPS = 10000


def origins(expander, text):
    """The list of the origins of the outcome's signs."""
    words, _ = _run_of(expander, text)
    # The word first has the origin -1, then the places of the text follow, and its length is that of the last.
    return [at - 1 for at, word in enumerate(words) for _ in word]


def steps(expander, text):
    """How many steps the run of a text has."""
    _, many = _run_of(expander, text)
    return many


def held(expander, text):
    """The ascending list of the places of a text that no sign of its outcome has as its origin."""
    words, _ = _run_of(expander, text)
    return [place for place, word in enumerate(words[1:-1]) if word == ""]


def _run_of(expander, text):
    """The words that the outcome of a text is made of, and how many steps its run has."""
    need_expander(expander)
    need_text(expander[0], text)
    found = values_of(expander)
    words = words_of_text(expander, found, text)
    counts = _steps_of(expander, found)
    calls, _ = calls_of_text(expander, found, text)
    many = sum([counts[call] for call in calls])
    if many > MOST_STEPS:
        raise TooMany(MOST_STEPS)
    return (words, many)


def _steps_of(expander, found):
    """The dict from the calls that have a value to how many steps they take."""
    counts = {}
    # Each call stands behind all those that its run comes to.
    for call in found:
        _, back, state = move_of(expander, call[0], call[1])
        many = 1
        for sign in back:
            many += counts[(state, sign)]
            state = found[(state, sign)][1]
        counts[call] = many
    return counts
