"""Which beginnings a machine tells apart, and so how many states a machine with one head needs."""

from bothends.answers import Same, Told, some_ending_parts
from bothends.checks import check_count, check_length, check_machine, check_two_words
from bothends.errors import TooMany
from bothends.machines import reads

MOST_LONG = 12
MOST_TEXTS = 800


def first_ending(machine, one, other, long):
    """The first ending, in order, that parts two beginnings, of which there is one."""
    ending = ""
    while len(one) + len(ending) < long:
        # Whatever parts both with one letter more begins with that letter.
        parting = [
            letter for letter in machine[0]
            if some_ending_parts(machine, one + ending + letter, other + ending + letter, long)
        ]
        ending += parting[0]
    return ending


def told_apart(machine, one, other, long):
    """Whether an ending parts two beginnings of as many letters, words of that length made: the first one, or none."""
    check_machine(machine)
    check_two_words(machine[0], one, other, MOST_LONG)
    check_length(long, len(one), MOST_LONG)
    if some_ending_parts(machine, one, other, long):
        return Told(first_ending(machine, one, other, long))
    return Same()


def texts_of(letters, long):
    """All texts of these letters of that length, in order."""
    texts = [""]
    for place in range(long):
        texts = [text + letter for text in texts for letter in letters]
    return texts


def check_texts(letters, long):
    """Refuse a length of which these letters make more than 800 texts."""
    texts = 1
    for place in range(long):
        texts = texts * len(letters)
    if texts > MOST_TEXTS:
        raise TooMany(f"more than {MOST_TEXTS} texts: {texts}")


def kinds(machine, many, long):
    """Into how many kinds the beginnings of so many letters fall, by words of that length."""
    check_machine(machine)
    check_count(many)
    check_length(long, many, MOST_LONG)
    check_texts(machine[0], long)
    beginnings = texts_of(machine[0], many)
    endings = texts_of(machine[0], long - many)
    return len({tuple([reads(machine, one + ending) for ending in endings]) for one in beginnings})
