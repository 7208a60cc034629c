"""Reading words with a machine, from both ends inward."""

from bothends.checks import check_machine, check_two_words, check_word

MOST_OF_WORD = 60
MOST_OF_SIDE = 30


def pair_at(letters, first, last):
    """Where the state of a pair of letters stands among a state's moves."""
    return letters.index(first) * len(letters) + letters.index(last)


def state_behind(machine, left, right):
    """The state that a machine comes to by a left and a right text of as many letters."""
    letters, moves = machine[0], machine[1]
    state = 0
    # The outermost letters go first: the first of the left text, the last of the right one.
    for first, last in zip(left, right[::-1]):
        state = moves[state][pair_at(letters, first, last)]
    return state


def reads(machine, word):
    """Whether a machine has a word of its letters, however long that is."""
    letters, moves, ends, middles = machine
    half = len(word) // 2
    state = state_behind(machine, word[:half], word[len(word) - half:])
    if len(word) == 2 * half:
        return ends[state]
    return middles[state][letters.index(word[half])]


def has(machine, word):
    """Whether the machine has the word, of at most 60 letters."""
    check_machine(machine)
    check_word(machine[0], word, MOST_OF_WORD)
    return reads(machine, word)


def behind(machine, left, right):
    """The state behind a left and a right text of as many letters, at most 30 each."""
    check_machine(machine)
    check_two_words(machine[0], left, right, MOST_OF_SIDE)
    return state_behind(machine, left, right)
