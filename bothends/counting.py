"""How many words of a length a machine has, and their numbers in order."""

from bothends.checks import check_length, check_machine, is_number
from bothends.errors import BadNumber, NotHad
from bothends.machines import MOST_OF_WORD, has


def counts_inside(machine, long):
    """For each count of pairs around a middle, up to that length: how many words are had behind each state."""
    letters, moves, ends, middles = machine
    counts = [int(end) for end in ends] if long % 2 == 0 else [sum(row) for row in middles]
    rows = [counts]
    for pairs in range(long // 2):
        counts = [sum([counts[goal] for goal in row]) for row in moves]
        rows.append(counts)
    return rows


class Beginning:
    """A beginning that grows letter by letter, of words of one length, and how many words had go on from it."""

    def __init__(self, machine, long):
        self.machine = machine
        self.long = long
        self.places = []
        self.inside = counts_inside(machine, long)
        # Behind each count of letters of the left half: for each state, how many texts at the right lead to it.
        self.ways = [[1] + [0] * (len(machine[1]) - 1)]
        # From the middle on all letters around it are known: for each state, 1 if these are had behind it,
        # else 0. Where there is a middle letter, it is taken ahead of any use of this.
        self.rest = [int(end) for end in machine[2]]

    def in_left_half(self):
        """Whether the next letter is one that a pair begins with."""
        return len(self.places) < self.long // 2

    def row_parts(self, first):
        """For each state its goals by the pairs that begin with the letter of that place."""
        many = len(self.machine[0])
        return [row[first * many:(first + 1) * many] for row in self.machine[1]]

    def shares(self):
        """For each letter, for each state that the pairs around lead to: how many words had go on with that letter."""
        here = len(self.places)
        places = list(range(len(self.machine[0])))
        if self.in_left_half():
            counts = self.inside[self.long // 2 - here - 1]
            return [[sum([counts[goal] for goal in goals]) for goals in self.row_parts(at)] for at in places]
        counterpart = self.long - 1 - here
        if counterpart == here:
            return [[int(row[at]) for row in self.machine[3]] for at in places]
        parts = self.row_parts(self.places[counterpart])
        return [[self.rest[goals[at]] for goals in parts] for at in places]

    def counts(self):
        """How many words had go on with each of the letters."""
        here = len(self.places)
        ways = self.ways[min(here, self.long - 1 - here)]
        return [sum([many * share for many, share in zip(ways, row)]) for row in self.shares()]

    def take(self, place):
        """Go on with the letter of that place."""
        if self.in_left_half():
            self.ways.append(self.ways_by(place))
        else:
            self.rest = self.shares()[place]
        self.places.append(place)

    def ways_by(self, place):
        """For each state, how many texts at the right lead to it behind one more letter of the left half."""
        grown = [0] * len(self.machine[1])
        for many, goals in zip(self.ways[-1], self.row_parts(place)):
            for goal in goals:
                grown[goal] += many
        return grown


def how_many(machine, long):
    """How many words of that length, 0 to 60, the machine has."""
    check_machine(machine)
    check_length(long, 0, MOST_OF_WORD)
    return counts_inside(machine, long)[-1][0]


def word_by(machine, long, number):
    """The word of that number among the machine's words of that length, in order."""
    words = how_many(machine, long)
    if not is_number(number) or not 0 <= number < words:
        raise BadNumber(f"no number of a word: there are {words} words of that length")
    beginning = Beginning(machine, long)
    letters = []
    ahead = number
    for place in range(long):
        counts = beginning.counts()
        at = 0
        while ahead >= counts[at]:
            ahead -= counts[at]
            at += 1
        beginning.take(at)
        letters.append(machine[0][at])
    return "".join(letters)


def number_of(machine, word):
    """The number of a word among the machine's words of its length, in order."""
    if not has(machine, word):
        raise NotHad("the machine hasn't the word")
    beginning = Beginning(machine, len(word))
    number = 0
    for letter in word:
        at = machine[0].index(letter)
        number += sum(beginning.counts()[:at])
        beginning.take(at)
    return number
