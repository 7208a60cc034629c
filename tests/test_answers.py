"""Points 1, 5, 6 and 10: what the answers are, and whether they show what they tell."""

import copy
import itertools
import random
import unittest

from bothends import answers
from bothends.answers import Alike, Answer, Apart, Empty, First, Same, Told
from tests.helpers import (
    ENDS_MEET, EVERY_FOURTH, FIRST_A_LAST_B, SAMPLES, THREE_LETTERS, alike_pairs, beginnings, come_by_together, doubled,
    empty_states, looped, made_machine, one_state, parting_endings, reads, ring, shuffled, words_up_to,
)

HUGE = 10 ** 5000


class TestClasses(unittest.TestCase):
    def test_six_straight_under_answer(self):
        self.assertEqual(Answer.__bases__, (object,))
        for name in ["Alike", "Apart", "First", "Empty", "Told", "Same"]:
            kind = getattr(answers, name)
            self.assertEqual(kind.__bases__, (Answer,), name)
            self.assertEqual(kind.__name__, name)
            self.assertIn("shows", vars(kind), name)

    def test_fields_as_handed_in(self):
        self.assertEqual(vars(Alike([(0, 0), (1, -2)])), {"pairs": [(0, 0), (1, -2)]})
        self.assertEqual(vars(Apart("ab")), {"word": "ab"})
        self.assertEqual(vars(First("ba")), {"word": "ba"})
        self.assertEqual(vars(Empty([3, -1, 3])), {"states": [3, -1, 3]})
        self.assertEqual(vars(Told("abc")), {"ending": "abc"})
        self.assertEqual(vars(Same()), {})

    def test_fields_by_name(self):
        self.assertEqual(Alike(pairs=[(0, 0)]).pairs, [(0, 0)])
        self.assertEqual(Apart(word="x").word, "x")
        self.assertEqual(First(word="").word, "")
        self.assertEqual(Empty(states=[]).states, [])
        self.assertEqual(Told(ending="").ending, "")

    def test_lists_are_copied(self):
        for kind, field, items in [(Alike, "pairs", [(0, 0), (1, 1)]), (Empty, "states", [0, 1])]:
            handed = list(items)
            answer, again = kind(handed), kind(handed)
            self.assertIs(getattr(answer, field).__class__, list)
            handed.append(items[0])
            handed[0] = None
            self.assertEqual(getattr(answer, field), items)
            kept = list(handed)
            getattr(answer, field).clear()
            self.assertEqual(handed, kept)
            self.assertEqual(getattr(again, field), items)


class TestAlikeShows(unittest.TestCase):
    def shown(self, truth, pairs, one, other):
        self.assertIs(Alike(pairs).shows(one, other), truth, pairs)

    def test_all_that_come_by_together(self):
        for machine in SAMPLES + [ring(40), made_machine("abc", 15, 2), one_state("ab", True)]:
            self.shown(True, come_by_together(machine, machine), machine, machine)
            turned = shuffled(machine, 1)
            self.shown(True, come_by_together(machine, turned), machine, turned)
            if len(machine[1]) <= 20:
                twice = doubled(machine, 4)
                self.shown(True, come_by_together(machine, twice), machine, twice)
                self.shown(True, come_by_together(twice, machine), twice, machine)

    def test_in_any_order_and_twice(self):
        pairs = come_by_together(FIRST_A_LAST_B, FIRST_A_LAST_B)
        for order in itertools.permutations(pairs):
            self.shown(True, list(order), FIRST_A_LAST_B, FIRST_A_LAST_B)
        self.shown(True, pairs + pairs, FIRST_A_LAST_B, FIRST_A_LAST_B)

    def test_one_missing(self):
        twice = doubled(FIRST_A_LAST_B, 4)
        for one, other in [(FIRST_A_LAST_B, FIRST_A_LAST_B), (FIRST_A_LAST_B, twice), (ring(9), shuffled(ring(9), 2))]:
            pairs = come_by_together(one, other)
            for at in range(len(pairs)):
                self.shown(False, pairs[:at] + pairs[at + 1:], one, other)

    def test_no_pairs(self):
        for machine in SAMPLES:
            self.shown(False, [], machine, machine)

    def test_both_zeros_are_missing(self):
        # State 0 is never come back to, so the rest goes along together without it.
        self.shown(True, [(0, 0), (1, 1), (2, 2)], FIRST_A_LAST_B, FIRST_A_LAST_B)
        self.shown(False, [(1, 1), (2, 2)], FIRST_A_LAST_B, FIRST_A_LAST_B)
        self.shown(False, [(1, 1)], FIRST_A_LAST_B, FIRST_A_LAST_B)

    def test_more_than_needed(self):
        # The states 2 and 3 are never come by.
        one = ("a", [[1], [0], [2], [3]], [True, False, False, True], [[False], [False], [False], [True]])
        needed = [(0, 0), (1, 1)]
        self.shown(True, needed, one, one)
        self.shown(True, needed + [(2, 2)], one, one)
        self.shown(True, needed + [(2, 2), (3, 3)], one, one)
        # More pairs are to go along together, too.
        self.shown(False, needed + [(2, 3)], one, one)
        self.shown(False, needed + [(0, 1)], one, one)
        self.shown(False, needed + [(1, 2)], one, one)
        self.shown(False, [(2, 3)] + needed, one, one)

    def test_numbers_that_are_no_states(self):
        for machine in [one_state("a", False), FIRST_A_LAST_B, ring(4)]:
            states = len(machine[1])
            pairs = come_by_together(machine, machine)
            for wrong in [-1, -states, states, states + 1, HUGE, -HUGE]:
                for pair in [(wrong, 0), (0, wrong), (wrong, wrong), (wrong, states - 1), (states - 1, wrong)]:
                    self.shown(False, pairs + [pair], machine, machine)
                    self.shown(False, [pair] + pairs, machine, machine)
                    self.shown(False, [pair], machine, machine)
        # Counted from the end, each of these would be a state that goes along.
        self.shown(False, [(0, 0), (-2, 1), (1, -2), (-1, -1)], FIRST_A_LAST_B, FIRST_A_LAST_B)

    def test_truths_are_no_numbers(self):
        self.shown(False, [(False, 0)], one_state("a", False), one_state("a", False))
        self.shown(False, [(0, 0), (1, True)], ring(2), ring(2))

    def test_a_pair_is_a_tuple_of_two(self):
        for pair in [[0, 0], (0,), (0, 0, 0), (), 0, None]:
            self.shown(False, [(0, 0), pair], one_state("a", True), one_state("a", True))

    def test_states_of_the_one_and_of_the_other(self):
        one = one_state("a", True)
        other = ("a", [[1], [1]], [True, True], [[True], [True]])
        self.shown(True, [(0, 0), (0, 1)], one, other)
        self.shown(False, [(0, 0), (1, 0)], one, other)
        self.shown(False, [(0, 0), (0, 1), (1, 0)], one, other)
        self.shown(True, [(0, 0), (1, 0)], other, one)
        self.shown(False, [(0, 0), (0, 1)], other, one)
        self.shown(False, [(0, 0), (1, 1)], other, one)

    def test_ends_that_differ(self):
        for state in range(9):
            other = ring(9)
            other[2][state] = not other[2][state]
            self.shown(False, come_by_together(ring(9), other), ring(9), other)

    def test_middles_that_differ(self):
        for state in range(len(THREE_LETTERS[1])):
            for at in range(3):
                other = copy.deepcopy(THREE_LETTERS)
                other[3][state][at] = not other[3][state][at]
                self.shown(False, come_by_together(THREE_LETTERS, other), THREE_LETTERS, other)
                self.shown(False, come_by_together(other, THREE_LETTERS), other, THREE_LETTERS)

    def test_one_move_that_leads_elsewhere(self):
        for at in range(9):
            other = copy.deepcopy(THREE_LETTERS)
            other[1][0][at] = 0
            pairs = [(state, state) for state in range(10)]
            self.shown(False, pairs, THREE_LETTERS, other)
            self.shown(False, pairs, other, THREE_LETTERS)

    def test_any_pairs(self):
        chance = random.Random(5)
        one = ("ab", [[0, 1, 1, 0], [1, 1, 0, 1]], [True, True], [[True, False], [True, False]])
        other = ("ab", [[2, 1, 1, 0], [1, 2, 0, 1], [0, 0, 2, 2]], [True] * 3, [[True, False] for state in range(3)])
        truths = []
        for turn in range(3000):
            pairs = [(chance.randrange(2), chance.randrange(3)) for at in range(chance.randrange(12))]
            if turn % 5 == 0:
                pairs.append((chance.randrange(-1, 3), chance.randrange(-1, 4)))
            truths.append(alike_pairs(pairs, one, other))
            self.shown(truths[-1], pairs, one, other)
        self.assertEqual(set(truths), {True, False})

    def test_very_many(self):
        pairs = come_by_together(ring(40), ring(40))
        self.shown(True, pairs * 5000, ring(40), ring(40))
        self.shown(False, pairs * 5000 + [(0, 1)], ring(40), ring(40))

    def test_by_the_field_as_it_stands_then(self):
        answer = Alike([(0, 0)])
        self.assertIs(answer.shows(ring(2), ring(2)), False)
        answer.pairs.append((1, 1))
        self.assertIs(answer.shows(ring(2), ring(2)), True)
        answer.pairs = [(1, 1)]
        self.assertIs(answer.shows(ring(2), ring(2)), False)
        answer.pairs = [(1, 1), (0, 0)]
        self.assertIs(answer.shows(ring(2), ring(2)), True)


class TestApartShows(unittest.TestCase):
    def shown(self, truth, word, one, other):
        self.assertIs(Apart(word).shows(one, other), truth, word)
        self.assertIs(Apart(word).shows(other, one), truth, word)

    def test_words_that_just_one_has(self):
        self.shown(True, "aa", ENDS_MEET, FIRST_A_LAST_B)
        self.shown(True, "ab", ENDS_MEET, FIRST_A_LAST_B)
        # The shortest is the one of no letter; any other will do, too.
        self.shown(True, "", ENDS_MEET, FIRST_A_LAST_B)
        self.shown(True, "b", ENDS_MEET, FIRST_A_LAST_B)
        self.shown(True, "abb", ENDS_MEET, FIRST_A_LAST_B)
        self.shown(True, "abbabba", ENDS_MEET, FIRST_A_LAST_B)

    def test_words_that_both_have_or_none(self):
        self.shown(False, "a", ENDS_MEET, FIRST_A_LAST_B)
        self.shown(False, "ba", ENDS_MEET, FIRST_A_LAST_B)
        self.shown(False, "bba", ENDS_MEET, FIRST_A_LAST_B)
        self.shown(False, "", EVERY_FOURTH, one_state("a", True))

    def test_all_short_words(self):
        machines = [ENDS_MEET, FIRST_A_LAST_B] + [made_machine("ab", 5, seed) for seed in range(4)]
        for one, other in itertools.product(machines, repeat=2):
            for word in words_up_to("ab", 6):
                self.shown(reads(one, word) != reads(other, word), word, one, other)

    def test_texts_with_other_letters(self):
        for word in ["c", "A", "ac", "ca", "aca", "aac", "~", " ", "a b", "\n", "a" * 80 + "c"]:
            self.shown(False, word, ENDS_MEET, FIRST_A_LAST_B)
            self.shown(False, word, one_state("ab", True), one_state("ab", False))

    def test_words_longer_than_sixty(self):
        self.shown(True, "a" * 61, one_state("ab", True), one_state("ab", False))
        self.shown(False, "a" * 61, one_state("ab", True), one_state("ab", True))
        self.shown(True, "a" * 76, ring(39), ring(40))
        self.shown(True, "a" * 78, ring(39), ring(40))
        self.shown(False, "a" * 74, ring(39), ring(40))
        # Behind 39 * 40 - 1 pairs both come to their ends again.
        self.shown(False, "a" * (2 * 39 * 40 - 2), ring(39), ring(40))
        half = "abbab" * 4001
        self.shown(True, half + half[::-1], ENDS_MEET, one_state("ab", False))
        self.shown(False, half + "ab" + half[::-1], ENDS_MEET, one_state("ab", False))
        self.shown(True, half + "b" + half[::-1], ENDS_MEET, one_state("ab", False))

    def test_by_the_field_as_it_stands_then(self):
        answer = Apart("a")
        self.assertIs(answer.shows(ENDS_MEET, FIRST_A_LAST_B), False)
        answer.word = "b"
        self.assertIs(answer.shows(ENDS_MEET, FIRST_A_LAST_B), True)
        answer.word = "c"
        self.assertIs(answer.shows(ENDS_MEET, FIRST_A_LAST_B), False)


class TestFirstShows(unittest.TestCase):
    def test_all_short_words(self):
        for machine in SAMPLES + [made_machine("bx", 6, 1), one_state("a", True), one_state("abc", False)]:
            for word in words_up_to(machine[0], 6):
                self.assertIs(First(word).shows(machine), reads(machine, word), word)

    def test_words_had_that_are_not_the_first(self):
        for word in ["", "a", "b", "aa", "abba", "babab"]:
            self.assertIs(First(word).shows(ENDS_MEET), True)

    def test_texts_with_other_letters(self):
        for word in ["c", "A", "aca", "cac", "ac", "~", " ", "a\n", "a" * 61 + "c"]:
            self.assertIs(First(word).shows(ENDS_MEET), False)
            self.assertIs(First(word).shows(one_state("ab", True)), False)
        self.assertIs(First("b").shows(one_state("amz", True)), False)

    def test_what_is_no_text(self):
        for value in [None, 0, ["a"], ("a", "b"), [], b"", {"a": 1}]:
            self.assertIs(First(value).shows(one_state("ab", True)), False)
            self.assertIs(Apart(value).shows(one_state("ab", True), one_state("ab", False)), False)
            self.assertIs(Told(value).shows(FIRST_A_LAST_B, "a", "b", 2), False)

    def test_words_longer_than_sixty(self):
        self.assertIs(First("a" * 78).shows(ring(40)), True)
        self.assertIs(First("a" * 76).shows(ring(40)), False)
        self.assertIs(First("a" * 79).shows(ring(40)), False)
        self.assertIs(First("ab" * 3000 + "a").shows(ENDS_MEET), True)
        self.assertIs(First("ab" * 3000).shows(ENDS_MEET), False)

    def test_by_the_field_as_it_stands_then(self):
        answer = First("ab")
        self.assertIs(answer.shows(ENDS_MEET), False)
        answer.word = "aa"
        self.assertIs(answer.shows(ENDS_MEET), True)


class TestEmptyShows(unittest.TestCase):
    # The states 0, 1 and 2 go to each other alone; 3 goes to 4; 4 has an end and 5 a middle.
    MACHINE = (
        "ab",
        [[1, 1, 1, 0], [1, 2, 1, 1], [0, 1, 2, 2], [3, 3, 4, 3], [4, 4, 4, 4], [5, 5, 5, 5], [6, 6, 6, 6]],
        [False, False, False, False, True, False, False],
        [[False, False]] * 5 + [[False, True], [False, False]],
    )

    def shown(self, truth, states, machine):
        self.assertIs(Empty(states).shows(machine), truth, states)

    def test_closed(self):
        self.shown(True, [0, 1, 2], self.MACHINE)
        self.shown(True, [2, 1, 0, 1], self.MACHINE)
        self.shown(True, [0], one_state("abc", False))
        # One that is never come by is no harm.
        self.shown(True, [0, 1, 2, 6], self.MACHINE)
        self.shown(True, [6, 0, 1, 2], self.MACHINE)

    def test_not_closed(self):
        for states in [[0], [0, 1], [0, 2], [0, 1, 6]]:
            self.shown(False, states, self.MACHINE)
        # What isn't needed is to be closed, too.
        self.shown(False, [0, 1, 2, 3], self.MACHINE)
        for at in range(9):
            machine = ("abc", [[0] * 9, [1] * 9], [False, False], [[False] * 3, [False] * 3])
            machine[1][0][at] = 1
            self.shown(False, [0], machine)
            self.shown(True, [0, 1], machine)

    def test_without_zero(self):
        for states in [[], [6], [1, 2], [1, 2, 6]]:
            self.shown(False, states, self.MACHINE)
        self.shown(False, [], one_state("a", False))

    def test_with_an_end_or_a_middle(self):
        self.shown(False, [0, 1, 2, 4], self.MACHINE)
        self.shown(False, [0, 1, 2, 5], self.MACHINE)
        self.shown(False, [0, 1, 2, 3, 4], self.MACHINE)
        for letters in ["a", "ab", "abc"]:
            machine = one_state(letters, False)
            self.shown(True, [0], machine)
            machine[2][0] = True
            self.shown(False, [0], machine)
            for at in range(len(letters)):
                machine = one_state(letters, False)
                machine[3][0][at] = True
                self.shown(False, [0], machine)

    def test_numbers_that_are_no_states(self):
        for wrong in [-1, -7, -8, 7, 8, HUGE, -HUGE]:
            self.shown(False, [0, 1, 2, wrong], self.MACHINE)
            self.shown(False, [wrong, 0, 1, 2], self.MACHINE)
            self.shown(False, [wrong], self.MACHINE)
        self.shown(False, [0, -1], one_state("a", False))
        self.shown(False, [-1], one_state("a", False))

    def test_truths_are_no_numbers(self):
        self.shown(False, [False], one_state("a", False))
        self.shown(False, [0, True, 2], self.MACHINE)

    def test_any_states(self):
        truths = []
        for many in range(8):
            for states in itertools.combinations(range(-1, 8), many):
                truths.append(empty_states(states, self.MACHINE))
                self.shown(truths[-1], list(states), self.MACHINE)
        self.assertEqual(set(truths), {True, False})

    def test_very_many(self):
        self.shown(True, [0, 1, 2] * 100000, self.MACHINE)
        self.shown(False, [0, 1, 2] * 100000 + [-1], self.MACHINE)

    def test_by_the_field_as_it_stands_then(self):
        answer = Empty([0, 1])
        self.assertIs(answer.shows(self.MACHINE), False)
        answer.states.append(2)
        self.assertIs(answer.shows(self.MACHINE), True)
        answer.states = [1, 2]
        self.assertIs(answer.shows(self.MACHINE), False)


class TestToldShows(unittest.TestCase):
    def test_endings_that_part_and_that_do_not(self):
        self.assertIs(Told("a").shows(ENDS_MEET, "ab", "ba", 3), True)
        self.assertIs(Told("b").shows(ENDS_MEET, "ab", "ba", 3), True)
        self.assertIs(Told("ba").shows(ENDS_MEET, "ab", "ba", 4), True)
        self.assertIs(Told("ab").shows(ENDS_MEET, "ab", "ba", 4), True)
        # Neither abaa nor baaa is had; and abaaba is had, but by both.
        self.assertIs(Told("aa").shows(ENDS_MEET, "ab", "ba", 4), False)
        self.assertIs(Told("aaba").shows(ENDS_MEET, "ab", "ab", 6), False)

    def test_all_short_ones(self):
        for machine in SAMPLES + [made_machine("ab", 4, seed) for seed in range(3)]:
            for one, other in beginnings(machine, 2):
                for long in range(len(one), 5):
                    right = parting_endings(machine, one, other, long)
                    for ending in words_up_to(machine[0], 3):
                        self.assertIs(Told(ending).shows(machine, one, other, long), ending in right)

    def test_of_other_lengths_than_due(self):
        machine = FIRST_A_LAST_B
        # Of all these only the one that has the length due parts a from b.
        for ending in ["", "b", "ab", "aab", "aaab", "b" * 61, "ab" * 3000]:
            self.assertIs(Told(ending).shows(machine, "a", "b", 3), ending == "ab")
            self.assertIs(Told(ending).shows(machine, "a", "b", 2), ending == "b")
            self.assertIs(Told(ending).shows(machine, "a", "b", 1), ending == "")

    def test_with_other_letters(self):
        for ending in ["c", "B", "~", " ", "\n"]:
            self.assertIs(Told(ending).shows(FIRST_A_LAST_B, "a", "b", 2), False)
            self.assertIs(Told(ending + "b").shows(FIRST_A_LAST_B, "a", "b", 3), False)
            self.assertIs(Told("b" + ending).shows(FIRST_A_LAST_B, "a", "b", 3), False)

    def test_beginnings_as_long_as_the_length(self):
        self.assertIs(Told("").shows(ENDS_MEET, "abba", "abab", 4), True)
        self.assertIs(Told("").shows(ENDS_MEET, "abba", "baab", 4), False)
        self.assertIs(Told("a").shows(ENDS_MEET, "abba", "abab", 4), False)
        self.assertIs(Told("").shows(ENDS_MEET, "", "", 0), False)

    def test_the_longest(self):
        self.assertIs(Told("bbbaba").shows(ENDS_MEET, "ababbb", "ababba", 12), True)
        self.assertIs(Told("abbaba").shows(ENDS_MEET, "ababbb", "ababba", 12), True)
        self.assertIs(Told("abbabb").shows(ENDS_MEET, "ababbb", "ababba", 12), False)

    def test_by_the_field_as_it_stands_then(self):
        answer = Told("aa")
        self.assertIs(answer.shows(ENDS_MEET, "ab", "ba", 4), False)
        answer.ending = "ba"
        self.assertIs(answer.shows(ENDS_MEET, "ab", "ba", 4), True)


class TestSameShows(unittest.TestCase):
    def test_no_ending_parts(self):
        # By the last letter alone, whatever the first one is.
        machine = ("ab", [[1, 2, 1, 2], [1, 1, 1, 1], [2, 2, 2, 2]], [False, True, False], [[True, True]] * 3)
        self.assertIs(Same().shows(machine, "a", "b", 2), True)
        self.assertIs(Same().shows(machine, "aab", "bba", 7), True)
        self.assertIs(Same().shows(FIRST_A_LAST_B, "aa", "ab", 3), True)
        self.assertIs(Same().shows(EVERY_FOURTH, "aaa", "aaa", 4), True)

    def test_some_ending_parts(self):
        self.assertIs(Same().shows(FIRST_A_LAST_B, "a", "b", 2), False)
        self.assertIs(Same().shows(FIRST_A_LAST_B, "aa", "ba", 3), False)
        self.assertIs(Same().shows(ENDS_MEET, "ab", "ba", 4), False)
        self.assertIs(Same().shows(ENDS_MEET, "aba", "abb", 6), False)

    def test_beginnings_that_are_alike(self):
        for machine in SAMPLES + [made_machine("abc", 40, 9)]:
            for word in words_up_to(machine[0], 3):
                for long in [len(word), len(word) + 1, len(word) + 2, 11, 12]:
                    self.assertIs(Same().shows(machine, word, word, long), True)

    def test_a_length_as_long_as_the_beginnings(self):
        for machine in SAMPLES:
            for one, other in beginnings(machine, 4 if len(machine[0]) < 3 else 3):
                self.assertIs(Same().shows(machine, one, other, len(one)), reads(machine, one) == reads(machine, other))

    def test_all_short_ones(self):
        truths = []
        machines = [made_machine("ab", 2 + seed % 4, seed) for seed in range(8)] + [made_machine("abc", 3, 1)]
        for machine in SAMPLES + machines:
            for one, other in beginnings(machine, 3 if len(machine[0]) < 3 else 2):
                for long in range(len(one), 6 if len(machine[0]) < 3 else 5):
                    truths.append(parting_endings(machine, one, other, long) == [])
                    self.assertIs(Same().shows(machine, one, other, long), truths[-1], (one, other, long))
        self.assertEqual(set(truths), {True, False})

    def test_parted_by_one_ending_alone(self):
        # Just one word of seven letters is had.
        word = "abbabab"
        moves = [[4] * 4 for state in range(5)]
        for at, pair in enumerate(["ab", "ba", "bb"]):
            moves[at]["aa ab ba bb".split().index(pair)] = at + 1
        machine = ("ab", moves, [False] * 5, [[False, False]] * 3 + [[True, False], [False, False]])
        self.assertEqual([text for text in words_up_to("ab", 8) if reads(machine, text)], [word])
        for many in range(8):
            for one in ["".join(letters) for letters in itertools.product("ab", repeat=many)]:
                self.assertIs(Same().shows(machine, word[:many], one, 7), one == word[:many])
                self.assertIs(Same().shows(machine, one, word[:many], 7), one == word[:many])
                self.assertIs(Same().shows(machine, word[:many], one, 8), True)

    def test_the_longest(self):
        # Three letters make 531441 texts of twelve: they are not all tried.
        machine = made_machine("abc", 40, 3)
        for turn in range(100):
            self.assertIs(Same().shows(machine, "", "", 12), True)
            self.assertIs(Same().shows(machine, "a", "b", 12), False)
        # By any letters a long way round, so that no letter counts.
        for ended in [[], [5], [6], [7]]:
            self.assertIs(Same().shows(looped("abc", 8, 0, ended), "abc", "cba", 12), True)

    def test_a_machine_of_all_words_or_of_none(self):
        for truth in [True, False]:
            for letters in ["a", "ab", "abc"]:
                for one, other in beginnings((letters,), 2):
                    for long in range(len(one), 13):
                        self.assertIs(Same().shows(one_state(letters, truth), one, other, long), True)


class TestNothingIsChanged(unittest.TestCase):
    def test_by_shows(self):
        for machine in SAMPLES:
            other = shuffled(machine, 3)
            before = copy.deepcopy((machine, other))
            pairs = come_by_together(machine, other)
            text = machine[0]
            for answer, handed in [
                (Alike(pairs), (machine, other)), (Alike([]), (machine, other)), (Apart("aa"), (machine, other)),
                (First("aa"), (machine,)), (Empty([0]), (machine,)), (Told("a"), (machine, text, text, 4)),
                (Same(), (machine, text, text[::-1], 6)),
            ]:
                fields = copy.deepcopy(vars(answer))
                answer.shows(*handed)
                self.assertEqual((machine, other), before)
                self.assertEqual(vars(answer), fields)


if __name__ == "__main__":
    unittest.main()
