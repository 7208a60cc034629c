"""Machines made of other machines, each told as the least one of its words."""

from bothends.checks import check_letter, check_letters, check_machine, check_two_machines
from bothends.exploring import built, paired
from bothends.least import least_alike
from bothends.machines import behind, pair_at


def joined(one, other, join):
    """The least machine of the words of which join, of whether the one and whether the other has them, is True."""
    check_two_machines(one, other)
    pairs, machine = paired(one, other, join)
    return least_alike(machine)


def both(one, other):
    """The machine of the words that both have."""
    return joined(one, other, lambda mine, theirs: mine and theirs)


def either(one, other):
    """The machine of the words that either has."""
    return joined(one, other, lambda mine, theirs: mine or theirs)


def without(one, other):
    """The machine of the words that the first one alone has."""
    return joined(one, other, lambda mine, theirs: mine and not theirs)


def others(machine):
    """The machine of all other words of its letters."""
    check_machine(machine)
    letters, moves, ends, middles = machine
    return least_alike((letters, moves, [not end for end in ends], [[not truth for truth in row] for row in middles]))


def mirrored(machine):
    """The machine of all its words turned about."""
    check_machine(machine)
    letters, moves, ends, middles = machine
    turned = [pair_at(letters, last, first) for first in letters for last in letters]
    return least_alike((letters, [[row[at] for at in turned] for row in moves], ends, middles))


def inner(machine, left, right):
    """The machine of all words that it has with the left and the right text around them."""
    start = behind(machine, left, right)
    letters, moves, ends, middles = machine
    return built(letters, start, lambda state: (moves[state], ends[state], middles[state]))


def wrapped(machine, first, last):
    """The machine of its words, each with a first and a last letter put around it."""
    check_machine(machine)
    letters, moves, ends, middles = machine
    check_letter(letters, first)
    check_letter(letters, last)
    many = len(letters)
    # A new state stands ahead of the others, which go up by one, and behind them one for all other words.
    astray = len(moves) + 1
    start = [astray] * (many * many)
    start[pair_at(letters, first, last)] = 1
    return least_alike((
        letters,
        [start] + [[goal + 1 for goal in row] for row in moves] + [[astray] * (many * many)],
        [False] + ends + [False],
        [[False] * many] + middles + [[False] * many],
    ))


def own_turnings(letters):
    """The machine of all words of these letters that turned about are the same."""
    check_letters(letters)
    many = len(letters)
    return least_alike((
        letters,
        [[0 if first == last else 1 for first in letters for last in letters], [1] * (many * many)],
        [True, False],
        [[True] * many, [False] * many],
    ))
