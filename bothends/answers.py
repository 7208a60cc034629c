"""What is told of machines as an answer that can be shown to hold."""

from bothends.checks import is_state, is_text_of
from bothends.machines import pair_at, reads


def is_state_pair(value, one, other):
    """Whether it is a pair of a state of the one machine and a state of the other."""
    if not isinstance(value, tuple) or len(value) != 2:
        return False
    return is_state(value[0], len(one[1])) and is_state(value[1], len(other[1]))


def choices_at(letters, one, other, place):
    """The pairs of letters that two words can have at a place: behind their beginnings both have the same one."""
    if place < len(one):
        return [(one[place], other[place])]
    return [(letter, letter) for letter in letters]


def moves_at(letters, one, other, long, place):
    """Which moves two words can make together by the letter at a place and the one as far from the end."""
    firsts = choices_at(letters, one, other, place)
    lasts = choices_at(letters, one, other, long - 1 - place)
    return [
        (pair_at(letters, first, last), pair_at(letters, other_first, other_last))
        for first, other_first in firsts for last, other_last in lasts
    ]


def pairs_behind(machine, one, other, long):
    """The pairs of states that two beginnings come to with all endings, before the middle letter if there is one."""
    letters, moves = machine[0], machine[1]
    pairs = [(0, 0)]
    # There are far fewer pairs of states than endings.
    for place in range(long // 2):
        steps = moves_at(letters, one, other, long, place)
        pairs = sorted({(moves[mine][by], moves[theirs][at]) for mine, theirs in pairs for by, at in steps})
    return pairs


def some_ending_parts(machine, one, other, long):
    """Whether two beginnings have an ending with which they have that length and the machine has just one of both."""
    letters, moves, ends, middles = machine
    pairs = pairs_behind(machine, one, other, long)
    if long % 2 == 0:
        return any([ends[mine] != ends[theirs] for mine, theirs in pairs])
    places = [
        (letters.index(letter), letters.index(other_letter))
        for letter, other_letter in choices_at(letters, one, other, long // 2)
    ]
    return any([middles[mine][at] != middles[theirs][by] for mine, theirs in pairs for at, by in places])


class Answer:
    """Above every answer."""


class Alike(Answer):
    """Two machines have the same words: pairs of states that go along together."""

    def __init__(self, pairs):
        self.pairs = list(pairs)

    def shows(self, one, other):
        """Whether the pairs, both 0s among them, are alike in ends and middles and go to pairs of the list."""
        if not all([is_state_pair(pair, one, other) for pair in self.pairs]):
            return False
        listed = {pair: True for pair in self.pairs}
        if (0, 0) not in listed:
            return False
        for mine, theirs in listed:
            if one[2][mine] != other[2][theirs] or one[3][mine] != other[3][theirs]:
                return False
            if not all([goals in listed for goals in zip(one[1][mine], other[1][theirs])]):
                return False
        return True


class Apart(Answer):
    """Two machines have not the same words: a word that just one of them has."""

    def __init__(self, word):
        self.word = word

    def shows(self, one, other):
        """Whether just one of both machines has the word."""
        return is_text_of(one[0], self.word) and reads(one, self.word) != reads(other, self.word)


class First(Answer):
    """A machine has a word: this one."""

    def __init__(self, word):
        self.word = word

    def shows(self, machine):
        """Whether the machine has the word."""
        return is_text_of(machine[0], self.word) and reads(machine, self.word)


class Empty(Answer):
    """A machine has no word: states without any that it never leaves."""

    def __init__(self, states):
        self.states = list(states)

    def shows(self, machine):
        """Whether the states, 0 among them, have no end and no middle and go to states of the list alone."""
        letters, moves, ends, middles = machine
        if not all([is_state(state, len(moves)) for state in self.states]):
            return False
        listed = {state: True for state in self.states}
        if 0 not in listed:
            return False
        for state in listed:
            if ends[state] or any(middles[state]):
                return False
            if not all([goal in listed for goal in moves[state]]):
                return False
        return True


class Told(Answer):
    """Two beginnings are told apart: by an ending with which a machine has just one of both."""

    def __init__(self, ending):
        self.ending = ending

    def shows(self, machine, one, other, long):
        """Whether the ending makes both that long, and the machine has just one of both words."""
        if not is_text_of(machine[0], self.ending) or len(one) + len(self.ending) != long:
            return False
        return reads(machine, one + self.ending) != reads(machine, other + self.ending)


class Same(Answer):
    """Two beginnings are not told apart: by no ending."""

    def shows(self, machine, one, other, long):
        """Whether there is no ending with which both are that long and the machine has just one of both words."""
        return not some_ending_parts(machine, one, other, long)
