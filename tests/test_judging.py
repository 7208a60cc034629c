"""Points 1, 2, 5 and 6: two machines alike or a word that parts them, and a first word or states without any."""

import copy
import itertools
import random
import unittest

from bothends.answers import Alike, Apart, Empty, First
from bothends.counting import how_many, word_by
from bothends.errors import BadMachine, TooMany, Unlike
from bothends.judging import compared, first_word
from bothends.least import least
from bothends.making import both, either, mirrored, others, own_turnings, without, wrapped
from tests.helpers import (
    ENDS_MEET, EVERY_FOURTH, FIRST_A_LAST_B, SAMPLES, THREE_LETTERS, alike_pairs, as_told, bad_parts, doubled,
    empty_states, looped, made_machine, odd_values, one_state, path_to, reads, ring, shuffled, sparse_machine,
    words_up_to,
)


def first_parting_word(one, other, most):
    """The shortest word, of several the first in order, that just one of both has; of all up to that length."""
    parting = [word for word in words_up_to(one[0], most) if reads(one, word) != reads(other, word)]
    return min(parting, key=lambda word: (len(word), word), default=None)


def first_word_tried(machine, most):
    """The shortest word, of several the first in order, that the machine has; of all up to that length."""
    had = [word for word in words_up_to(machine[0], most) if reads(machine, word)]
    return min(had, key=lambda word: (len(word), word), default=None)


def changed_in_one_place(machine):
    """The machine with one end, one middle or one move changed, at each place."""
    letters, moves, ends, middles = machine
    for state in range(len(moves)):
        other = copy.deepcopy(machine)
        other[2][state] = not ends[state]
        yield other
        for at in range(len(letters)):
            other = copy.deepcopy(machine)
            other[3][state][at] = not middles[state][at]
            yield other
        for at in range(len(moves[state])):
            for goal in range(len(moves)):
                other = copy.deepcopy(machine)
                other[1][state][at] = goal
                yield other


def longest_apart():
    """Two rings of one letter, of 40 and of 39 states, that have the same words as long as it can be."""
    # Behind fewer than 40 + 39 - 2 pairs the ends are alike: each place is as the one a round further on.
    many = 40 + 39 - 2
    groups = list(range(many))
    for step in [40, 39] * many:
        for at in range(many - step):
            low = min(groups[at], groups[at + step])
            groups[at] = groups[at + step] = low
    marks = [group == 0 for group in groups]

    def round_of(states):
        return (
            "a", [[(state + 1) % states] for state in range(states)], marks[:states], [[False]] * states,
        )

    return round_of(40), round_of(39)


class Judged(unittest.TestCase):
    def alike(self, one, other):
        """Both are alike, and it is shown."""
        told = compared(one, other)
        self.assertIs(told.__class__, Alike)
        self.assertIs(told.shows(one, other), True)
        self.assertIs(told.pairs.__class__, list)
        for pair in told.pairs:
            self.assertIs(pair.__class__, tuple)
            self.assertEqual([number.__class__ for number in pair], [int, int])
        self.assertTrue(alike_pairs(told.pairs, one, other))

    def apart(self, one, other, word):
        """Both are apart by this word, whichever is named first, and it is shown."""
        for told in [compared(one, other), compared(other, one)]:
            self.assertIs(told.__class__, Apart)
            self.assertEqual(told.word, word)
            self.assertIs(told.shows(one, other), True)
            self.assertIs(told.shows(other, one), True)
        self.assertNotEqual(reads(one, word), reads(other, word))

    def judged(self, one, other, most):
        """They are alike if no word up to that length parts them, else apart by the first of the shortest."""
        word = first_parting_word(one, other, most)
        if word is None:
            self.alike(one, other)
            return "Alike"
        self.apart(one, other, word)
        return "Apart"

    def first(self, machine, word):
        """The machine has this word as the first, and it is shown."""
        told = first_word(machine)
        self.assertIs(told.__class__, First)
        self.assertEqual(told.word, word)
        self.assertIs(told.shows(machine), True)
        self.assertIs(reads(machine, word), True)

    def empty(self, machine):
        """The machine has no word, and it is shown."""
        told = first_word(machine)
        self.assertIs(told.__class__, Empty)
        self.assertIs(told.shows(machine), True)
        self.assertIs(told.states.__class__, list)
        self.assertEqual({state.__class__ for state in told.states}, {int})
        self.assertTrue(empty_states(told.states, machine))


class TestAlike(Judged):
    def machines(self):
        yield from SAMPLES
        for letters in ["a", "bz", "abc"]:
            yield one_state(letters, True)
            yield one_state(letters, False)
            for states in [2, 3, 7, 20]:
                yield made_machine(letters, states, states)

    def test_itself(self):
        for machine in self.machines():
            self.alike(machine, machine)
            self.alike(machine, copy.deepcopy(machine))
        self.alike(ring(40), ring(40))
        self.alike(made_machine("abc", 40, 1), made_machine("abc", 40, 1))

    def test_its_states_twice(self):
        for machine in self.machines():
            for seed in range(4):
                twice = doubled(machine, seed)
                self.alike(machine, twice)
                self.alike(twice, machine)
                self.alike(twice, doubled(machine, seed + 4))

    def test_its_states_in_another_turn(self):
        for machine in self.machines():
            for seed in range(4):
                self.alike(machine, shuffled(machine, seed))
                self.alike(shuffled(machine, seed), shuffled(doubled(machine, seed), seed))
        self.alike(ring(40), shuffled(ring(40), 3))

    def test_its_least_one(self):
        for machine in self.machines():
            self.alike(machine, least(machine))
            self.alike(least(doubled(machine, 1)), machine)

    def test_states_that_are_never_come_by_do_not_count(self):
        one = ("ab", [[0, 0, 0, 0], [1, 1, 1, 1]], [True, True], [[True, False], [False, False]])
        other = ("ab", [[0, 0, 0, 0], [0, 1, 1, 1]], [True, False], [[True, False], [True, True]])
        self.alike(one, other)
        self.assertEqual(least(one), least(other))

    def test_as_many_pairs_as_there_are(self):
        # Each state of the one goes along with each one of the other.
        for letters in ["a", "ab", "abc"]:
            self.alike(looped(letters, 40, 0, []), looped(letters, 39, 0, []))
            self.alike(looped(letters, 40, 0, range(40)), looped(letters, 39, 0, range(39)))
        told = compared(looped("ab", 40, 0, []), looped("ab", 39, 0, []))
        self.assertEqual(sorted(told.pairs), list(itertools.product(range(40), range(39))))

    def test_words_made_in_two_ways(self):
        for one, other in [(ENDS_MEET, FIRST_A_LAST_B), (made_machine("ab", 4, 1), made_machine("ab", 5, 2))]:
            self.alike(without(one, other), both(one, others(other)))
            self.alike(either(one, other), others(both(others(one), others(other))))
            self.alike(mirrored(mirrored(one)), one)


class TestApart(Judged):
    def test_one_end_one_middle_or_one_move(self):
        told = []
        for machine in [ring(3), ENDS_MEET, FIRST_A_LAST_B, made_machine("ab", 3, 4), made_machine("abc", 2, 5)]:
            # Two machines of k states part, if at all, behind fewer than 2 * k - 1 pairs.
            most = 2 * (2 * len(machine[1]) - 2) + 1
            for other in changed_in_one_place(machine):
                told.append(self.judged(machine, other, most))
        self.assertEqual(set(told), {"Alike", "Apart"})

    def test_any_two(self):
        told = []
        for letters, states, most in [("a", 6, 21), ("bz", 3, 9), ("abc", 2, 5)]:
            for seed in range(60):
                one = sparse_machine(letters, 1 + seed % states, seed)
                other = sparse_machine(letters, 1 + seed // 2 % states, seed + 1000)
                told.append(self.judged(one, other, most))
        self.assertEqual(set(told), {"Alike", "Apart"})

    def test_the_word_of_no_letter(self):
        for letters in ["a", "ab", "abc"]:
            self.apart(one_state(letters, True), one_state(letters, False), "")
        self.apart(ENDS_MEET, FIRST_A_LAST_B, "")

    def test_the_word_of_one_letter(self):
        for letters in ["a", "ab", "amz"]:
            for at, letter in enumerate(letters):
                machine = one_state(letters, False)
                machine[3][0][at] = True
                self.apart(machine, one_state(letters, False), letter)
                # All letters from this one on part them: the first is told.
                machine[3][0][at:] = [True] * (len(letters) - at)
                self.apart(machine, one_state(letters, False), letter)

    def test_each_pair_of_letters(self):
        for letters in ["a", "ab", "amz"]:
            for first, last in itertools.product(letters, repeat=2):
                machine = wrapped(one_state(letters, True), first, last)
                self.apart(machine, one_state(letters, False), first + last)

    def test_the_shortest_ahead_of_the_first_in_order(self):
        # aaa and b part them.
        self.apart(either(path_to("ab", "aaa"), path_to("ab", "b")), one_state("ab", False), "b")
        self.apart(either(path_to("ab", "bb"), path_to("ab", "aaa")), one_state("ab", False), "bb")
        self.apart(path_to("ab", "aaaa"), path_to("ab", "bbb"), "bbb")

    def test_the_first_in_order_not_the_first_pair(self):
        # The pair aa goes ahead of ab, but the word aab ahead of aba.
        self.apart(path_to("ab", "aab"), path_to("ab", "aba"), "aab")
        self.apart(path_to("ab", "abaa"), path_to("ab", "aabb"), "aabb")
        self.apart(path_to("ab", "abbaa"), path_to("ab", "abaab"), "abaab")

    def test_one_of_two_words(self):
        chance = random.Random(8)
        for turn in range(200):
            letters = ["ab", "amz"][turn % 2]
            long = chance.randrange(1, 10)
            one, other = ["".join(chance.choice(letters) for at in range(long)) for word in range(2)]
            if one != other:
                self.apart(path_to(letters, one), path_to(letters, other), min(one, other))

    def test_more_than_sixty_letters(self):
        self.apart(ring(39), ring(40), "a" * 76)
        self.apart(ring(40), one_state("a", False), "a" * 78)
        for letters in ["ab", "amz"]:
            self.apart(looped(letters, 40, 0, [39]), one_state(letters, False), "a" * 78)
        for long in [61, 70, 75, 76, 77]:
            word = ("abbabaabba" * 8)[:long]
            self.apart(path_to("ab", word), one_state("ab", False), word)
            last = "b" if word[-1] == "a" else "a"
            self.apart(path_to("ab", word), path_to("ab", word[:-1] + last), word[:-1] + "a")
            self.alike(path_to("ab", word), shuffled(path_to("ab", word), long))

    def test_the_longest_of_all(self):
        one, other = longest_apart()
        agreed = [reads(one, "a" * many) == reads(other, "a" * many) for many in range(155)]
        self.assertEqual(agreed.index(False), 154)
        self.apart(one, other, "a" * 154)

    def test_against_the_words_that_just_one_has(self):
        told = []
        for seed in range(80):
            letters = ["a", "ab", "abc"][seed % 3]
            one, other = sparse_machine(letters, 2 + seed % 5, seed), sparse_machine(letters, 3, seed + 500)
            try:
                just_one = either(without(one, other), without(other, one))
            except TooMany:
                continue
            if just_one == one_state(letters, False):
                self.alike(one, other)
                told.append("Alike")
                continue
            long = [many for many in range(61) if how_many(just_one, many)][0]
            self.apart(one, other, word_by(just_one, long, 0))
            self.first(just_one, word_by(just_one, long, 0))
            told.append("Apart")
        self.assertEqual(set(told), {"Alike", "Apart"})
        self.assertGreater(len(told), 40)


class TestFirstWord(Judged):
    def test_any_machine(self):
        told = []
        for letters, states in [("a", 9), ("bz", 5), ("abc", 3)]:
            for seed in range(120):
                machine = sparse_machine(letters, 1 + seed % states, seed)
                # The states on the way to a shortest word are all unlike.
                word = first_word_tried(machine, 2 * len(machine[1]) - 1)
                if word is None:
                    self.empty(machine)
                else:
                    self.first(machine, word)
                told.append(word if word is None else len(word))
        self.assertLessEqual({None, 0, 1, 2, 3, 4, 5}, set(told))

    def test_some_machines(self):
        self.first(EVERY_FOURTH, "")
        self.first(ENDS_MEET, "")
        self.first(FIRST_A_LAST_B, "a")
        self.first(THREE_LETTERS, "a")
        self.first(wrapped(ENDS_MEET, "b", "a"), "ba")
        self.first(wrapped(others(own_turnings("amz")), "z", "a"), "zama")

    def test_machines_with_many_words(self):
        for letters in ["a", "bz", "abc"]:
            self.first(one_state(letters, True), "")
            for states in [1, 2, 3, 5, 40]:
                for seed in range(10):
                    machine = made_machine(letters, states, seed)
                    word = first_word_tried(machine, 5)
                    if word is not None:
                        self.first(machine, word)

    def test_no_word(self):
        for letters in ["a", "bz", "abc"]:
            self.empty(one_state(letters, False))
            self.empty(looped(letters, 40, 0, []))
            self.empty(looped(letters, 17, 5, []))
            for seed in range(10):
                machine = made_machine(letters, 40, seed)
                self.empty((letters, machine[1], [False] * 40, [[False] * len(letters) for state in range(40)]))

    def test_words_that_are_never_come_by(self):
        machine = (
            "ab", [[0, 1, 1, 0], [1, 0, 0, 1], [0, 1, 2, 3], [2, 2, 2, 2]], [False, False, True, True],
            [[False, False], [False, False], [True, True], [False, False]],
        )
        self.empty(machine)
        self.assertEqual(sorted(first_word(machine).states), [0, 1])

    def test_state_zero_may_have_another_way_back(self):
        # From 0 to 2 and from there to 1 and back, and no state with a word.
        machine = ("a", [[2], [0], [1]], [False] * 3, [[False]] * 3)
        self.empty(machine)
        self.assertEqual(sorted(first_word(machine).states), [0, 1, 2])

    def test_one_state_with_a_word(self):
        # The last state alone has a word, of no letter or of one.
        for letters in ["a", "ab", "amz"]:
            for states in [1, 2, 5, 31, 40]:
                self.first(looped(letters, states, 0, [states - 1]), "a" * (2 * states - 2))
                for letter in letters:
                    machine = looped(letters, states, 0, [])
                    machine[3][states - 1][letters.index(letter)] = True
                    self.first(machine, "a" * (states - 1) + letter + "a" * (states - 1))

    def test_an_end_and_a_middle(self):
        # An end goes ahead of a middle of the same state, a middle ahead of an end one pair further on.
        machine = looped("ab", 5, 4, [3])
        machine[3][3][0] = True
        self.first(machine, "aaaaaa")
        machine[3][2][1] = True
        self.first(machine, "aabaa")
        machine[2][2] = True
        self.first(machine, "aaaa")

    def test_the_first_of_several(self):
        self.first(either(path_to("ab", "aab"), path_to("ab", "aba")), "aab")
        self.first(either(path_to("ab", "abaa"), path_to("ab", "aabb")), "aabb")
        self.first(either(path_to("amz", "zaa"), path_to("amz", "mzz")), "mzz")
        self.first(either(path_to("amz", "mza"), path_to("amz", "mmz")), "mmz")
        self.first(either(path_to("ab", "bb"), path_to("ab", "aaa")), "bb")
        chance = random.Random(9)
        for turn in range(100):
            letters = ["ab", "amz"][turn % 2]
            long = chance.randrange(1, 10)
            words = ["".join(chance.choice(letters) for at in range(long)) for word in range(3)]
            machine = either(either(*[path_to(letters, word) for word in words[:2]]), path_to(letters, words[2]))
            self.first(machine, min(words))

    def test_the_last_letters_come_last_in_order(self):
        # By ab or ba from each state to the next: first letters all a, so last letters all b.
        states = 12
        moves = [[state, state + 1, state + 1, state] for state in range(states - 1)] + [[0] * 4]
        machine = ("ab", moves, [state == states - 1 for state in range(states)], [[False, False]] * states)
        self.first(machine, "a" * 11 + "b" * 11)

    def test_more_than_sixty_letters(self):
        for long in range(58, 78):
            word = ("amzmmazzam" * 8)[:long]
            self.first(path_to("amz", word), word)
            self.first(path_to("amz", word[::-1]), word[::-1])
        self.first(ring(40), "a" * 78)
        machine = ring(40)
        machine[2][39] = False
        machine[3][39][0] = True
        self.first(machine, "a" * 79)

    def test_as_it_is_numbered(self):
        for seed in range(60):
            letters = ["a", "ab", "abc"][seed % 3]
            machine = sparse_machine(letters, 40, seed)
            long = min([many for many in range(61) if how_many(machine, many)], default=None)
            if long is not None:
                self.first(machine, word_by(machine, long, 0))
            elif least(machine) == one_state(letters, False):
                self.empty(machine)

    def test_apart_from_the_machine_without_words(self):
        for seed in range(40):
            machine = sparse_machine("ab", 6, seed)
            told = first_word(machine)
            other = compared(machine, one_state("ab", False))
            if told.__class__ is First:
                self.assertEqual(as_told(other), ("Apart", {"word": told.word}))
            else:
                self.assertIs(other.__class__, Alike)


class TestRefusals(unittest.TestCase):
    def test_what_is_no_machine(self):
        for what, machine in bad_parts(FIRST_A_LAST_B):
            with self.subTest(what):
                for one, other in [(machine, FIRST_A_LAST_B), (FIRST_A_LAST_B, machine), (machine, machine)]:
                    with self.assertRaises(BadMachine):
                        compared(one, other)
                with self.assertRaises(BadMachine):
                    first_word(machine)

    def test_any_value_for_a_machine(self):
        for value in odd_values():
            with self.subTest(value.__class__.__name__):
                for one, other in [(value, ENDS_MEET), (ENDS_MEET, value), (value, value), (value, None)]:
                    with self.assertRaises(BadMachine):
                        compared(one, other)
                with self.assertRaises(BadMachine):
                    first_word(value)

    def test_too_many_states(self):
        for letters in ["a", "ab", "abc"]:
            machine = looped(letters, 41, 0, [])
            with self.assertRaises(BadMachine):
                first_word(machine)
            with self.assertRaises(BadMachine):
                compared(machine, one_state(letters, False))
            with self.assertRaises(BadMachine):
                compared(one_state(letters, False), machine)

    def test_unlike_letters(self):
        for one, other in itertools.permutations(["a", "b", "ab", "ac", "bc", "abc", "abd"], 2):
            for truth in [True, False]:
                with self.assertRaises(Unlike):
                    compared(one_state(one, True), one_state(other, truth))

    def test_no_machine_ahead_of_unlike_letters(self):
        bad = ("abc", [[0] * 9], [1], [[True] * 3])
        with self.assertRaises(BadMachine):
            compared(ENDS_MEET, bad)
        with self.assertRaises(BadMachine):
            compared(bad, ENDS_MEET)
        with self.assertRaises(Unlike):
            compared(ENDS_MEET, EVERY_FOURTH)


if __name__ == "__main__":
    unittest.main()
