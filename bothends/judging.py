"""Whether two machines are alike, and whether a machine has a word: each told as an answer that shows it."""

from bothends.answers import Alike, Apart, Empty, First
from bothends.checks import check_machine, check_two_machines
from bothends.exploring import paired


def levels_of(machine):
    """The states by how many pairs of letters it takes to come to them, as far as to the first that have words.

    Words are those of no letter and of one here. Where no state has any, the last level is empty.
    """
    letters, moves, ends, middles = machine
    levels = [[0]]
    seen = {0}
    while levels[-1] and not any([ends[state] or any(middles[state]) for state in levels[-1]]):
        goals = [goal for state in levels[-1] for goal in moves[state]]
        fresh = []
        for goal in goals:
            if goal not in seen:
                seen.add(goal)
                fresh.append(goal)
        levels.append(fresh)
    return levels


def innermost_words(machine, level):
    """For each state of a level that has it the word of no letter; if none has it, the first one of one letter."""
    letters, moves, ends, middles = machine
    words = {state: "" for state in level if ends[state]}
    if words:
        return words
    return {state: letters[middles[state].index(True)] for state in level if any(middles[state])}


def words_around(machine, level, words):
    """For each state of a level that goes to states with words: the first of these words with its pair around it."""
    letters, moves = machine[0], machine[1]
    pairs = [(first, last) for first in letters for last in letters]
    grown = {}
    for state in level:
        found = [first + words[goal] + last for (first, last), goal in zip(pairs, moves[state]) if goal in words]
        if found:
            grown[state] = min(found)
    return grown


def shortest_word(machine, levels):
    """The shortest word, of several the first in order, by the levels of the machine, the last one with words."""
    words = innermost_words(machine, levels[-1])
    # A shortest word goes from each level to the next one, else there were a shorter one. Of words of one length
    # around which the same pair stands the first stays the first, so of each state one word is enough.
    for level in reversed(levels[:-1]):
        words = words_around(machine, level, words)
    return words[0]


def compared(one, other):
    """Whether two machines with the same letters are alike: pairs of states, or the first word of the shortest."""
    check_two_machines(one, other)
    pairs, parting = paired(one, other, lambda mine, theirs: mine != theirs)
    levels = levels_of(parting)
    if levels[-1]:
        return Apart(shortest_word(parting, levels))
    return Alike(pairs)


def first_word(machine):
    """Whether a machine has a word: the first word of the shortest, or the states that it comes to without any."""
    check_machine(machine)
    levels = levels_of(machine)
    if levels[-1]:
        return First(shortest_word(machine, levels))
    return Empty([state for level in levels for state in level])
