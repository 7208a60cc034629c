"""The least machine of those that are alike."""

from bothends.checks import MOST_STATES, check_machine
from bothends.errors import TooMany


def come_by(moves):
    """The states as they are first come by: from 0 on, for each in turn its moves in order."""
    found = [0]
    seen = {0}
    at = 0
    while at < len(found):
        row = moves[found[at]]
        for goal in row:
            if goal not in seen:
                seen.add(goal)
                found.append(goal)
        at += 1
    return found


def grouped(order, marks):
    """For each state the number of its group: equal marks are one group, counted in this order."""
    numbers = {}
    groups = {}
    for state in order:
        groups[state] = numbers.setdefault(marks[state], len(numbers))
    return groups


def marks_by_move(order, moves, groups):
    """For each state its group and, for each pair of letters, the group that it goes to."""
    return {state: (groups[state], tuple([groups[goal] for goal in moves[state]])) for state in order}


def alike_groups(order, moves, ends, middles):
    """For each state the number of the group of states behind which the same words are had."""
    groups = grouped(order, {state: (ends[state], tuple(middles[state])) for state in order})
    highest = -1
    # Groups only ever fall apart: as soon as none does, none will later; and too many stay too many.
    while highest < max(groups.values()):
        highest = max(groups.values())
        if highest >= MOST_STATES:
            raise TooMany(f"the least machine has more than {MOST_STATES} states")
        groups = grouped(order, marks_by_move(order, moves, groups))
    return groups


def first_of_each(order, groups):
    """The first state of each group, groups in order of their numbers."""
    firsts = []
    for state in order:
        if groups[state] == len(firsts):
            firsts.append(state)
    return firsts


def least_alike(machine):
    """The least machine that is alike, of what is a machine but may have more states than are allowed."""
    letters, moves, ends, middles = machine
    order = come_by(moves)
    # Groups counted in the order of their first states are counted as the least machine's
    # own states are first come by, so they need no counting anew.
    groups = alike_groups(order, moves, ends, middles)
    firsts = first_of_each(order, groups)
    return (
        letters,
        [[groups[goal] for goal in moves[state]] for state in firsts],
        [ends[state] for state in firsts],
        [list(middles[state]) for state in firsts],
    )


def least(machine):
    """The machine with the fewest states that has the same words, its states counted in order."""
    check_machine(machine)
    return least_alike(machine)
