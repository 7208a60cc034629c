"""Machines laid out from a start on, state by state as they are first come by."""

from bothends.least import least_alike


def laid_out(letters, start, state_of):
    """What is come by from a start on, and the machine whose states these are, which may be more than are allowed.

    state_of tells of each of them its goals, its end and its middles.
    """
    found = [start]
    numbers = {start: 0}
    moves, ends, middles = [], [], []
    while len(moves) < len(found):
        goals, end, truths = state_of(found[len(moves)])
        for goal in goals:
            if goal not in numbers:
                numbers[goal] = len(found)
                found.append(goal)
        moves.append([numbers[goal] for goal in goals])
        ends.append(end)
        middles.append(truths)
    return found, (letters, moves, ends, middles)


def built(letters, start, state_of):
    """The least machine from a start on, where state_of tells of each state its goals, its end and its middles."""
    found, machine = laid_out(letters, start, state_of)
    return least_alike(machine)


def paired(one, other, join):
    """The pairs of states that two machines come to together, and the machine whose states these are.

    It has the words of which join, of whether the one and whether the other has them, is True.
    """
    def state_of(pair):
        mine, theirs = pair
        return (
            list(zip(one[1][mine], other[1][theirs])),
            join(one[2][mine], other[2][theirs]),
            [join(truth, other_truth) for truth, other_truth in zip(one[3][mine], other[3][theirs])],
        )

    return laid_out(one[0], (0, 0), state_of)
