"""Machines, words and odd values for the tests, and a second way to read words."""

import copy
import itertools
import random

EVERY_FOURTH = (
    # One letter: has just the words of 0, 4, 8 and so on letters.
    "a",
    [[1], [0]],
    [True, False],
    [[False], [False]],
)

ENDS_MEET = (
    # Two letters: has the words that turned about are the same.
    "ab",
    [[0, 1, 1, 0], [1, 1, 1, 1]],
    [True, False],
    [[True, True], [False, False]],
)

FIRST_A_LAST_B = (
    # Two letters: has the words a, and those that begin with a and end with b.
    "ab",
    [[2, 1, 2, 2], [1, 1, 1, 1], [2, 2, 2, 2]],
    [False, True, False],
    [[True, False], [True, True], [False, False]],
)

THREE_LETTERS = (
    # Three letters, not side by side: each pair of letters goes to a state of its own.
    "amz",
    [[1, 2, 3, 4, 5, 6, 7, 8, 9]] + [[state] * 9 for state in range(1, 10)],
    [False, True, False, True, False, True, False, True, False, True],
    [[state % 2 == 0, state % 3 == 0, state % 5 == 0] for state in range(10)],
)

SAMPLES = [EVERY_FOURTH, ENDS_MEET, FIRST_A_LAST_B, THREE_LETTERS]


class Touchy:
    """A value that can't even be asked whether it is equal, how long it is or what is in it."""

    def refuse(self, *told):
        raise RuntimeError("touched")

    __eq__ = __ne__ = __lt__ = __le__ = __gt__ = __ge__ = refuse
    __hash__ = __bool__ = __len__ = __iter__ = __getitem__ = __contains__ = refuse
    __str__ = __repr__ = __index__ = __int__ = __call__ = refuse


def endless_list():
    """A list that is an item of its own."""
    items = []
    items.append(items)
    return items


def odd_values():
    """Values of many kinds, new ones each time."""
    return [
        None, True, False, 0, 1, -1, 40, 41, 10 ** 40, -10 ** 40,
        "", "a", "b", "A", "ab", "ba", "aa", "1", " ", "a b", "abc", "abcd", b"", b"a", b"ab", bytearray(b"a"),
        [], [0], [True], [None], [[]], [[0]], ["a"], (), (0,), ("a",), ("a", [[0]], [True]), ([],), {}, {0: 0},
        {"a": 1}, {0}, {"a"}, frozenset(), frozenset("a"), range(1), iter([]), object(), object, len, Exception(),
        lambda: 0, NotImplemented, ..., endless_list(), Touchy(), memoryview(b"a"),
    ]


def odd_but(right):
    """The odd values without the one that is none: it is of the same kind and written the same."""
    return [value for value in odd_values() if value.__class__ is not right.__class__ or repr(value) != repr(right)]


def words_up_to(letters, most):
    """All words of these letters, of at most so many."""
    for long in range(most + 1):
        for word in itertools.product(letters, repeat=long):
            yield "".join(word)


def reads(machine, word, state=0):
    """Whether the machine has the word from this state on: one pair after the other, as told in the document."""
    letters, moves, ends, middles = machine
    if word == "":
        return ends[state]
    if len(word) == 1:
        return middles[state][letters.index(word)]
    pairs = [first + last for first in letters for last in letters]
    return reads(machine, word[1:-1], moves[state][pairs.index(word[0] + word[-1])])


def words_of(machine, most, state=0):
    """The words, of at most so many letters, that the machine has from this state on."""
    return [word for word in words_up_to(machine[0], most) if reads(machine, word, state)]


def made_machine(letters, states, seed):
    """Some machine with so many states, the same one for the same seed."""
    chance = random.Random(seed)
    many = len(letters)
    return (
        letters,
        [[chance.randrange(states) for at in range(many * many)] for state in range(states)],
        [chance.random() < 0.3 for state in range(states)],
        [[chance.random() < 0.3 for letter in letters] for state in range(states)],
    )


def counted_otherwise(machine, names):
    """The same machine with state number k called names[k]; names[0] is 0."""
    letters, moves, ends, middles = machine
    places = [names.index(at) for at in range(len(names))]
    return (
        letters,
        [[names[goal] for goal in moves[place]] for place in places],
        [ends[place] for place in places],
        [list(middles[place]) for place in places],
    )


def shuffled(machine, seed):
    """The same machine with its states, but for 0, counted otherwise."""
    rest = list(range(1, len(machine[1])))
    random.Random(seed).shuffle(rest)
    return counted_otherwise(machine, [0] + rest)


def doubled(machine, seed):
    """The same words by twice as many states: each stands there twice, moves go to either."""
    letters, moves, ends, middles = machine
    states = len(moves)
    chance = random.Random(seed)
    return (
        letters,
        [[goal + states * chance.randrange(2) for goal in row] for row in moves + moves],
        ends + ends,
        [list(row) for row in middles + middles],
    )


def ring(states):
    """One letter; round and round, and just the last state has an end."""
    return (
        "a",
        [[(state + 1) % states] for state in range(states)],
        [state == states - 1 for state in range(states)],
        [[False] for state in range(states)],
    )


def one_state(letters, truth):
    """The machine of all words of these letters, or of none."""
    many = len(letters)
    return (letters, [[0] * (many * many)], [truth], [[truth] * many])


def looped(letters, states, back, ended):
    """By any letters from each state to the next, from the last one back to another; these states have ends."""
    many = len(letters)
    return (
        letters,
        [[state + 1 if state + 1 < states else back] * (many * many) for state in range(states)],
        [state in ended for state in range(states)],
        [[False] * many for state in range(states)],
    )


def come_by_together(one, other):
    """The pairs of states that two machines come to by the same texts."""
    pairs = [(0, 0)]
    for mine, theirs in pairs:
        for goals in zip(one[1][mine], other[1][theirs]):
            if goals not in pairs:
                pairs.append(goals)
    return pairs


def alike_pairs(pairs, one, other):
    """Whether the pairs are as point 5 tells, asked word by word of it."""
    states = list(itertools.product(range(len(one[1])), range(len(other[1]))))
    if (0, 0) not in pairs or any(pair not in states for pair in pairs):
        return False
    return all(
        one[2][mine] is other[2][theirs]
        and all(one[3][mine][at] is other[3][theirs][at] for at in range(len(one[0])))
        and all((one[1][mine][at], other[1][theirs][at]) in pairs for at in range(len(one[1][0])))
        for mine, theirs in pairs
    )


def empty_states(states, machine):
    """Whether the states are as point 6 tells, asked word by word of it."""
    if 0 not in states or any(state not in range(len(machine[1])) for state in states):
        return False
    return all(
        machine[2][state] is False and True not in machine[3][state]
        and all(goal in states for goal in machine[1][state])
        for state in states
    )


def parting_endings(machine, one, other, long):
    """All endings with which both beginnings are that long and just one word is had."""
    endings = ["".join(ending) for ending in itertools.product(machine[0], repeat=long - len(one))]
    return [ending for ending in endings if reads(machine, one + ending) != reads(machine, other + ending)]


def beginnings(machine, most):
    """All pairs of texts of as many letters, at most so many."""
    texts = list(words_up_to(machine[0], most))
    return [(one, other) for one in texts for other in texts if len(one) == len(other)]


def sparse_machine(letters, states, seed):
    """Some machine with so many states that has just one end or one middle, the same one for the same seed."""
    chance = random.Random(seed)
    machine = made_machine(letters, states, seed)
    ends = [False] * states
    middles = [[False] * len(letters) for state in range(states)]
    if chance.random() < 0.5:
        ends[chance.randrange(states)] = True
    else:
        middles[chance.randrange(states)][chance.randrange(len(letters))] = True
    return (letters, machine[1], ends, middles)


def path_to(letters, word):
    """The machine of this one word: a state for each pair of it, and behind them one for all other words."""
    half = len(word) // 2
    astray = half + 1
    moves = [[astray] * (len(letters) * len(letters)) for state in range(half + 2)]
    for state in range(half):
        first, last = word[state], word[len(word) - 1 - state]
        moves[state][letters.index(first) * len(letters) + letters.index(last)] = state + 1
    odd = len(word) % 2 == 1
    return (
        letters,
        moves,
        [state == half and not odd for state in range(half + 2)],
        [[state == half and odd and letter == word[half] for letter in letters] for state in range(half + 2)],
    )


def as_told(value):
    """What is told as it can be compared: an answer by its class and its fields."""
    if value.__class__.__module__ == "bothends.answers":
        return value.__class__.__name__, vars(value)
    return value


def lists_in(machine):
    """All lists of a machine, those within lists too."""
    for part in machine[1:]:
        yield part
        for row in part:
            if isinstance(row, list):
                yield row


def replaced(machine, part, value):
    """The machine with another value for one of its four parts."""
    parts = list(copy.deepcopy(machine))
    parts[part] = value
    return tuple(parts)


def bad_parts(machine):
    """Machines that are none, each by one fault, with a text that says which; three states or more."""
    letters, moves, ends, middles = machine
    yield "a list", list(machine)
    yield "three parts", machine[:3]
    yield "five parts", machine + ([],)
    for text in ["", "abcd", "ba", "aa", "aab", "abb", "acb", "AB", "a1", "1a", "`a", "y{", "a-", " a"]:
        yield f"letters {text!r}", replaced(machine, 0, text)
    for value in [list(letters), tuple(letters), letters.encode(), None]:
        yield f"letters {value!r}", replaced(machine, 0, value)
    for part, what in [(1, "moves"), (2, "ends"), (3, "middles")]:
        yield f"{what} a tuple", replaced(machine, part, tuple(machine[part]))
        yield f"{what} one short", replaced(machine, part, machine[part][:-1])
        yield f"{what} one over", replaced(machine, part, machine[part] + machine[part][-1:])
        yield f"{what} none", replaced(machine, part, [])
        yield f"{what} a dict", replaced(machine, part, dict(enumerate(machine[part])))
    yield "no state", (letters, [], [], [])
    yield from bad_rows(machine)
    yield from bad_items(machine)


def bad_rows(machine):
    """Machines that are none by a row of moves or middles, at each place."""
    for part, what in [(1, "moves"), (3, "middles")]:
        for at in range(len(machine[part])):
            row = machine[part][at]
            for value in [row[:-1], row + row[:1], [], tuple(row), None, row[0], [row]]:
                rows = copy.deepcopy(machine[part])
                rows[at] = value
                yield f"{what} of state {at} {value!r}", replaced(machine, part, rows)


def bad_items(machine):
    """Machines that are none by one state, one end or one middle, at each place."""
    states = len(machine[1])
    no_state = [-1, states, states + 1, 10 ** 40, True, False, None, "0", [0], (0,)]
    no_truth = [0, 1, None, "", "True", [], [True]]
    for at in range(states):
        for value in no_truth:
            ends = list(machine[2])
            ends[at] = value
            yield f"end {at} {value!r}", replaced(machine, 2, ends)
        for part, values in [(1, no_state), (3, no_truth)]:
            for place in range(len(machine[part][at])):
                for value in values:
                    rows = copy.deepcopy(machine[part])
                    rows[at][place] = value
                    yield f"part {part}, {at}, {place} {value!r}", replaced(machine, part, rows)
