"""What is a machine and what is a word: the refusals that several files share."""

from bothends.errors import BadLength, BadLetters, BadMachine, BadPlain, BadWord, Unlike

MOST_LETTERS = 3
MOST_STATES = 40
MOST_PLAIN_STATES = 3


def is_number(value):
    """Whether it is a whole number; True and False are none."""
    return isinstance(value, int) and not isinstance(value, bool)


def is_list_of(value, many):
    """Whether it is a list of so many items."""
    return isinstance(value, list) and len(value) == many


def are_letters(value):
    """Whether it is a text of one to three rising letters from a to z."""
    if not isinstance(value, str) or not 1 <= len(value) <= MOST_LETTERS:
        return False
    # Rising letters are all from a to z if the first and the last of them are.
    if value[0] < "a" or value[-1] > "z":
        return False
    return all([one < other for one, other in zip(value, value[1:])])


def is_state(value, states):
    """Whether it is the number of one of so many states."""
    return is_number(value) and 0 <= value < states


def are_states(value, many, states):
    """Whether it is a list of so many numbers of states."""
    return is_list_of(value, many) and all([is_state(goal, states) for goal in value])


def are_truths(value, many):
    """Whether it is a list of so many of True and False."""
    return is_list_of(value, many) and all([isinstance(truth, bool) for truth in value])


def are_moves(value, many, most):
    """Whether it is a list with, for each of 1 to that many states at most, so many numbers of states."""
    if not isinstance(value, list) or not 1 <= len(value) <= most:
        return False
    return all([are_states(row, many, len(value)) for row in value])


def are_middles(value, states, many):
    """Whether it is a list with, for each state, True or False for each letter."""
    return is_list_of(value, states) and all([are_truths(row, many) for row in value])


def is_machine(value):
    """Whether it is a tuple of letters, moves, ends and middles that fit each other."""
    if not isinstance(value, tuple) or len(value) != 4:
        return False
    letters, moves, ends, middles = value
    if not are_letters(letters):
        return False
    many = len(letters)
    if not are_moves(moves, many * many, MOST_STATES):
        return False
    return are_truths(ends, len(moves)) and are_middles(middles, len(moves), many)


def is_plain(value):
    """Whether it is a triple of letters, moves and ends that fit each other, of a machine with one head."""
    if not isinstance(value, tuple) or len(value) != 3:
        return False
    letters, moves, ends = value
    if not are_letters(letters) or not are_moves(moves, len(letters), MOST_PLAIN_STATES):
        return False
    return are_truths(ends, len(moves))


def is_text_of(letters, value):
    """Whether it is a text of these letters, also of none."""
    return isinstance(value, str) and all([letter in letters for letter in value])


def check_letters(letters):
    """Refuse what are no letters of a machine."""
    if not are_letters(letters):
        raise BadLetters("no one to three rising letters from a to z")


def check_machine(machine):
    """Refuse what is no machine."""
    if not is_machine(machine):
        raise BadMachine("no machine: a tuple of letters, moves, ends and middles")


def check_plain(plain):
    """Refuse what is no plain machine."""
    if not is_plain(plain):
        raise BadPlain("no plain machine: a triple of letters, moves and ends")


def check_two_machines(one, other):
    """Refuse what are no two machines with the same letters."""
    check_machine(one)
    check_machine(other)
    if one[0] != other[0]:
        raise Unlike(f"unlike letters: {one[0]} and {other[0]}")


def check_word(letters, word, most):
    """Refuse what is no text of these letters, at most so many."""
    # The length comes first, so that a huge text is not read through.
    if not isinstance(word, str) or len(word) > most or not is_text_of(letters, word):
        raise BadWord(f"no text of the letters {letters}, at most {most} of them")


def check_letter(letters, letter):
    """Refuse what is no one of these letters."""
    # A text of none or of two letters is also in the letters, as Python asks.
    if not isinstance(letter, str) or len(letter) != 1 or letter not in letters:
        raise BadWord(f"no one of the letters {letters}")


def check_two_words(letters, one, other, most):
    """Refuse what are no two texts of these letters, of as many letters, at most so many."""
    check_word(letters, one, most)
    check_word(letters, other, most)
    if len(one) != len(other):
        raise BadWord(f"unlike many letters: {len(one)} and {len(other)}")


def check_count(many):
    """Refuse what is no number from 0 on."""
    if not is_number(many) or many < 0:
        raise BadLength("no number from 0 on")


def check_length(long, fewest, most):
    """Refuse what is no number from so many to so many."""
    if not is_number(long) or not fewest <= long <= most:
        # The fewest are not written out: Python refuses to write out numbers of very many digits.
        raise BadLength(f"no number within the limits, at most {most}")
