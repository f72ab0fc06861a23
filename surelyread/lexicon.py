"""Lexicons: words, and the machine that reads their texts character by character."""

from surelyread.errors import BadWords

MOST_WORDS = 20
LONGEST_WORD = 10
SEPARATORS = " \n"

# The states at the beginning, and behind a separator.
BEGINNING = 0
BEHIND = 1


def check_words(words):
    """Refuses words that are no lexicon."""
    if not 1 <= len(words) <= MOST_WORDS:
        raise BadWords()
    if len({word for word in words}) < len(words):
        raise BadWords()
    for word in words:
        if not 1 <= len(word) <= LONGEST_WORD or any([sign in word for sign in SEPARATORS]):
            raise BadWords()


def number_beginnings(words):
    """The state of each beginning of a word."""
    states = {}
    for word in words:
        for length in range(1, len(word) + 1):
            states.setdefault(word[:length], len(states) + 2)
    return states


def lexicon(words):
    """The machine of a lexicon: (ends, moves), each move (state, character, state)."""
    check_words(words)
    states = number_beginnings(words)
    moves = []
    for beginning, state in states.items():
        if len(beginning) == 1:
            moves.extend([(BEGINNING, beginning, state), (BEHIND, beginning, state)])
        else:
            moves.append((states[beginning[:-1]], beginning[-1], state))
        if beginning in words:
            moves.extend([(state, separator, BEHIND) for separator in SEPARATORS])
    ends = [True, False] + [beginning in words for beginning in states]
    return tuple(ends), tuple(sorted(moves))


def targets_of(machine):
    """The state behind each state and character that there is."""
    return {(state, character): target for state, character, target in machine[1]}


def run_by(targets, state, text):
    """The state to which the text leads from a state, or None; from None there is none."""
    for character in text:
        state = targets.get((state, character))
    return state


def run(machine, state, text):
    """The state to which the text leads from a state, or None if there is none."""
    return run_by(targets_of(machine), state, text)


def accepts(machine, text):
    """Whether the text leads from the beginning to a state in which a text can end."""
    state = run(machine, BEGINNING, text)
    return state is not None and machine[0][state]
