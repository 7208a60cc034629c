"""Plain machines, which read words with one head, letter by letter."""

from bothends.checks import check_plain, check_word
from bothends.exploring import built
from bothends.machines import MOST_OF_WORD


def plain_has(plain, word):
    """Whether the plain machine has the word, of at most 60 letters."""
    check_plain(plain)
    letters, moves, ends = plain
    check_word(letters, word, MOST_OF_WORD)
    state = 0
    for letter in word:
        state = moves[state][letters.index(letter)]
    return ends[state]


def from_plain(plain):
    """The machine that has just the words of the plain machine."""
    check_plain(plain)
    letters, moves, ends = plain
    places = list(range(len(letters)))

    # What counts of a left and a right text: the plain machine's state behind the left one, and for each
    # of its states whether the right one leads from there to an end. With three states these are at most
    # 24, so the machine is never too large.
    def state_of(sides):
        state, had = sides
        return (
            [(goal, tuple([had[row[last]] for row in moves])) for goal in moves[state] for last in places],
            had[state],
            [had[goal] for goal in moves[state]],
        )

    return built(letters, (0, tuple(ends)), state_of)
