"""Points 1, 2, 10 and 11: beginnings that an ending tells apart, and into how many kinds they fall."""

import itertools
import random
import unittest

from bothends.answers import Same, Told
from bothends.errors import BadLength, BadMachine, BadWord, TooMany
from bothends.making import mirrored, others, own_turnings
from bothends.plain import from_plain, plain_has
from bothends.telling import kinds, told_apart
from tests.helpers import (
    ENDS_MEET, EVERY_FOURTH, FIRST_A_LAST_B, SAMPLES, THREE_LETTERS, bad_parts, beginnings, looped, made_machine,
    odd_values, one_state, parting_endings, path_to, reads, sparse_machine, words_up_to,
)

HUGE = 10 ** 5000
NO_NUMBERS = [True, False, None, "", "3", [], [3], (3,), b"3", {}, {3: 3}]


def texts_of(letters, many):
    """All texts of so many letters, in order."""
    return ["".join(text) for text in itertools.product(letters, repeat=many)]


def kinds_tried(machine, many, long):
    """Into how many kinds the beginnings fall, all beginnings and all endings tried."""
    endings = texts_of(machine[0], long - many)
    kept = []
    for one in texts_of(machine[0], many):
        had = [ending for ending in endings if reads(machine, one + ending)]
        if had not in kept:
            kept.append(had)
    return len(kept)


class TestToldApart(unittest.TestCase):
    def told(self, machine, one, other, long, ending):
        """Told apart by this ending, and it is shown."""
        for told in [told_apart(machine, one, other, long), told_apart(machine, other, one, long)]:
            self.assertIs(told.__class__, Told)
            self.assertEqual(told.ending, ending)
            self.assertIs(told.shows(machine, one, other, long), True)
            self.assertIs(told.shows(machine, other, one, long), True)

    def same(self, machine, one, other, long):
        """Told apart by none, and it is shown."""
        told = told_apart(machine, one, other, long)
        self.assertIs(told.__class__, Same)
        self.assertIs(told.shows(machine, one, other, long), True)
        self.assertEqual(vars(told), {})

    def judged(self, machine, one, other, long):
        """As all endings tried tell."""
        right = parting_endings(machine, one, other, long)
        if right:
            self.told(machine, one, other, long, min(right))
        else:
            self.same(machine, one, other, long)
        return bool(right)

    def test_some(self):
        self.told(ENDS_MEET, "ab", "ba", 4, "ab")
        self.told(ENDS_MEET, "ab", "ba", 3, "a")
        self.told(ENDS_MEET, "aab", "abb", 6, "baa")
        self.told(FIRST_A_LAST_B, "a", "b", 5, "aaab")
        self.same(FIRST_A_LAST_B, "aa", "ab", 5)
        self.same(EVERY_FOURTH, "aaa", "aaa", 4)

    def test_against_all_endings(self):
        truths = []
        machines = [made_machine("ab", 2 + seed % 5, seed) for seed in range(6)] + [made_machine("bmz", 4, 2)]
        machines += [sparse_machine("ab", 3, seed) for seed in range(6)]
        for machine in SAMPLES + machines:
            most = 3 if len(machine[0]) < 3 else 2
            for one, other in beginnings(machine, most):
                for long in range(len(one), most + 4):
                    truths.append(self.judged(machine, one, other, long))
        self.assertEqual(set(truths), {True, False})

    def test_longer_ones_against_all_endings(self):
        chance = random.Random(6)
        truths = []
        for turn in range(150):
            letters, longest = [("a", 12), ("ab", 12), ("amz", 9)][turn % 3]
            machine = [made_machine, sparse_machine][turn % 2](letters, 2 + turn % 7, turn)
            long = longest - turn % 4
            many = long - chance.randrange(8 if len(letters) < 3 else 5)
            one, other = ["".join(chance.choice(letters) for at in range(many)) for text in range(2)]
            truths.append(self.judged(machine, one, other, long))
        self.assertEqual(set(truths), {True, False})

    def test_beginnings_that_are_alike(self):
        for machine in SAMPLES + [made_machine("abc", 40, 1)]:
            for one in words_up_to(machine[0], 3):
                for long in range(len(one), 13):
                    self.same(machine, one, one, long)

    def test_beginnings_of_no_letters(self):
        for machine in SAMPLES + [made_machine("abc", 40, 2)]:
            for long in range(13):
                self.same(machine, "", "", long)

    def test_a_length_as_long_as_the_beginnings(self):
        for machine in SAMPLES:
            for one, other in beginnings(machine, 4 if len(machine[0]) < 3 else 3):
                if reads(machine, one) != reads(machine, other):
                    self.told(machine, one, other, len(one), "")
                else:
                    self.same(machine, one, other, len(one))
        self.told(ENDS_MEET, "abbaabbaabba", "abbaabbaabbb", 12, "")
        self.same(ENDS_MEET, "abbaabbaabba", "baabbaabbaab", 12)

    def test_one_ending_alone(self):
        for word in ["abbabab", "abbababb", "bbabababaaba"]:
            machine = path_to("ab", word)
            for many in range(len(word) + 1):
                for one in texts_of("ab", many)[:64]:
                    if one != word[:many]:
                        self.told(machine, word[:many], one, len(word), word[many:])
                    if len(word) < 12:
                        self.same(machine, word[:many], one, len(word) + 1)

    def test_the_first_of_several(self):
        # Letters at the end are read ahead of those in the middle, but count less in the order.
        machine = ("ab", [[0, 1, 2, 0], [1] * 4, [2] * 4], [True, False, True], [[True, False]] * 3)
        for long in range(2, 9):
            for one, other in itertools.combinations(texts_of("ab", 2), 2):
                self.judged(machine, one, other, long)
        for seed in range(20):
            machine = made_machine("amz", 5, seed)
            for one, other in itertools.combinations("amz", 2):
                right = parting_endings(machine, one, other, 5)
                if len(right) > 1:
                    self.told(machine, one, other, 5, min(right))

    def test_the_longest(self):
        # Three letters make 177147 endings of eleven: they are not all tried.
        words = own_turnings("abc")
        for one, other in itertools.permutations("abc", 2):
            self.told(words, one, other, 12, "a" * 10 + min(one, other))
        self.told(words, "abcabc", "abcabb", 12, "bbacba")
        self.told(others(words), "abcabc", "abcabb", 12, "bbacba")
        for turn in range(30):
            self.same(made_machine("abc", 40, turn), "", "", 12)
            self.same(looped("abc", 40, 0, range(0, 40, 3)), "abca", "cbac", 12)
        self.told(path_to("abc", "cccccccccccc"), "c", "a", 12, "c" * 11)

    def test_all_words_or_none(self):
        for truth, letters in itertools.product([True, False], ["a", "ab", "abc"]):
            for one, other in beginnings((letters,), 2):
                for long in range(len(one), 13):
                    self.same(one_state(letters, truth), one, other, long)


class TestKinds(unittest.TestCase):
    def machines(self):
        yield from SAMPLES
        for letters in ["a", "ab", "amz"]:
            yield one_state(letters, True)
            yield one_state(letters, False)
            yield own_turnings(letters)
            for seed in range(4):
                yield made_machine(letters, 2 + seed * 4, seed)
                yield sparse_machine(letters, 2 + seed, seed)

    def test_against_all_beginnings_and_endings(self):
        told = []
        for machine in self.machines():
            for long in range({1: 12, 2: 6, 3: 4}[len(machine[0])] + 1):
                for many in range(long + 1):
                    number = kinds(machine, many, long)
                    self.assertIs(number.__class__, int)
                    self.assertEqual(number, kinds_tried(machine, many, long), (many, long))
                    told.append(number)
        self.assertLessEqual({1, 2, 3, 4}, set(told))

    def test_of_one_kind_are_those_of_which_same_is_told(self):
        for machine in self.machines():
            for many, long in [(0, 0), (1, 2), (2, 4), (2, 5), (3, 4)]:
                firsts = []
                for one in texts_of(machine[0], many):
                    told = [told_apart(machine, one, other, long).__class__ for other in firsts]
                    if Same not in told:
                        firsts.append(one)
                self.assertEqual(kinds(machine, many, long), len(firsts))

    def test_words_that_turned_about_are_the_same(self):
        # All beginnings up to the middle are unlike; behind it those count whose rest turns about.
        for many in range(5):
            self.assertEqual(kinds(own_turnings("ab"), many, 2 * many), 2 ** many)
            self.assertEqual(kinds(own_turnings("ab"), many, 2 * many + 1), 2 ** many)
        self.assertEqual(kinds(own_turnings("abc"), 3, 6), 27)
        self.assertEqual(kinds(own_turnings("abc"), 2, 6), 9)
        self.assertEqual(kinds(own_turnings("ab"), 8, 8), 2)
        self.assertEqual(kinds(own_turnings("ab"), 7, 8), 3)
        self.assertEqual(kinds(own_turnings("ab"), 6, 8), 5)

    def test_no_letters_and_all_letters(self):
        for machine in self.machines():
            for long in range(6):
                self.assertEqual(kinds(machine, 0, long), 1)
                had = {reads(machine, word) for word in texts_of(machine[0], long)}
                self.assertEqual(kinds(machine, long, long), len(had))

    def test_never_more_than_the_states_of_a_plain_machine(self):
        chance = random.Random(7)
        for turn in range(60):
            letters = ["a", "ab", "amz"][turn % 3]
            states = 1 + turn % 4 % 3
            moves = [[chance.randrange(states) for letter in letters] for state in range(states)]
            plain = (letters, moves, [chance.random() < 0.5 for state in range(states)])
            machine = from_plain(plain)
            for long in range({1: 12, 2: 8, 3: 5}[len(letters)] + 1):
                for many in range(long + 1):
                    self.assertLessEqual(kinds(machine, many, long), states)

    def test_as_many_as_a_plain_machine_needs(self):
        # The b's counted by threes need three states, and three kinds are told.
        plain = ("ab", [[0, 1], [1, 2], [2, 0]], [False, False, True])
        machine = from_plain(plain)
        self.assertEqual([kinds(machine, many, 8) for many in range(9)], [1, 2, 3, 3, 3, 3, 3, 3, 2])
        self.assertIs(plain_has(plain, "bb"), True)

    def test_the_same_for_all_other_words(self):
        for machine in self.machines():
            other_words = others(machine)
            for long in range(5):
                for many in range(long + 1):
                    self.assertEqual(kinds(machine, many, long), kinds(other_words, many, long))

    def test_beginnings_not_endings(self):
        # One that goes by the first letter alone, and by the last letter alone.
        first = ("ab", [[1, 1, 2, 2], [1] * 4, [2] * 4], [True, True, False], [[True, False], [True] * 2, [False] * 2])
        self.assertEqual([kinds(first, many, 4) for many in range(5)], [1, 2, 2, 2, 2])
        self.assertEqual([kinds(mirrored(first), many, 4) for many in range(5)], [1, 1, 1, 1, 2])

    def test_eight_hundred_texts_or_fewer(self):
        self.assertEqual(kinds(EVERY_FOURTH, 5, 12), 1)
        self.assertEqual(kinds(ENDS_MEET, 4, 9), 16)
        self.assertEqual(kinds(THREE_LETTERS, 1, 6), kinds_tried(THREE_LETTERS, 1, 6))
        self.assertEqual(kinds(own_turnings("amz"), 6, 6), 2)
        for long in range(13):
            self.assertEqual(kinds(one_state("a", True), long, long), 1)

    def test_more_than_eight_hundred_texts(self):
        for long in [10, 11, 12]:
            for many in [0, 1, 5, long]:
                with self.assertRaises(TooMany):
                    kinds(ENDS_MEET, many, long)
        for long in [7, 8, 12]:
            for many in [0, 1, 5, long]:
                with self.assertRaises(TooMany):
                    kinds(THREE_LETTERS, many, long)


class TestRefusals(unittest.TestCase):
    RIGHT_CALLS = [
        ("told_apart", lambda machine: told_apart(machine, "a", "b", 3)),
        ("kinds", lambda machine: kinds(machine, 1, 3)),
    ]
    WRONG_CALLS = [
        ("told_apart, letters", lambda machine: told_apart(machine, "a", "-", 3), BadWord),
        ("told_apart, kind", lambda machine: told_apart(machine, None, "a", 3), BadWord),
        ("told_apart, unlike many", lambda machine: told_apart(machine, "a", "aa", 3), BadWord),
        ("told_apart, length", lambda machine: told_apart(machine, "a", "a", 13), BadLength),
        ("kinds, count", lambda machine: kinds(machine, -1, 3), BadLength),
        ("kinds, length", lambda machine: kinds(machine, 3, 2), BadLength),
        ("kinds, texts", lambda machine: kinds(machine, 3, 12), TooMany),
    ]

    def test_right_calls_are_taken(self):
        for name, call in self.RIGHT_CALLS:
            with self.subTest(name):
                call(FIRST_A_LAST_B)

    def test_what_is_no_machine(self):
        for what, machine in bad_parts(FIRST_A_LAST_B):
            for name, call in self.RIGHT_CALLS:
                with self.assertRaises(BadMachine, msg=name + " " + what):
                    call(machine)

    def test_any_value_for_a_machine(self):
        for value in odd_values():
            for name, call in self.RIGHT_CALLS:
                with self.assertRaises(BadMachine, msg=name + " " + value.__class__.__name__):
                    call(value)

    def test_no_machine_ahead_of_all_else(self):
        for name, call, refusal in self.WRONG_CALLS:
            with self.assertRaises(refusal, msg=name):
                call(FIRST_A_LAST_B)
            for value in [None, list(FIRST_A_LAST_B), ("ab", [[0, 0, 0, 0]], [1], [[True, True]]), ("a", [], [], [])]:
                with self.assertRaises(BadMachine, msg=name):
                    call(value)

    def refused_word(self, one, other, long):
        with self.assertRaises(BadWord):
            told_apart(ENDS_MEET, one, other, long)

    def test_texts_of_other_letters(self):
        for text in ["c", "A", " ", "~", "\n", "1"]:
            for one, other in [(text, "a"), ("a", text), (text, text), ("a" + text, "ab"), ("ab", text + "b")]:
                self.refused_word(one, other, 4)
                self.refused_word(one, other, None)

    def test_texts_longer_than_twelve(self):
        for many in [13, 14, 60, 100000]:
            for one, other in [("a" * many, "a" * many), ("a" * many, "a"), ("a", "a" * many)]:
                for long in [many, 12, 13]:
                    self.refused_word(one, other, long)
        self.assertIs(told_apart(ENDS_MEET, "a" * 12, "b" * 12, 12).__class__, Same)

    def test_unlike_many(self):
        for one, other in [("", "a"), ("a", ""), ("ab", "a"), ("a", "ab"), ("a" * 12, "a" * 11), ("", "b" * 12)]:
            for long in [12, 5, 0, -1, 13, None, True]:
                self.refused_word(one, other, long)

    def test_any_value_for_a_text(self):
        for value in odd_values():
            if value.__class__ is not str:
                for one, other in [(value, ""), ("", value), (value, value), (value, "a"), ("a", value)]:
                    self.refused_word(one, other, 3)

    def test_lengths_of_told_apart(self):
        for one, other in [("", ""), ("a", "a"), ("a", "b"), ("abb", "aba"), ("ab" * 6, "ba" * 6)]:
            for long in [len(one) - 1, len(one) - 2, -1, -12, 13, 14, 61, HUGE, -HUGE] + NO_NUMBERS:
                with self.assertRaises(BadLength):
                    told_apart(ENDS_MEET, one, other, long)
            for long in [len(one), 12]:
                told_apart(ENDS_MEET, one, other, long)

    def test_any_value_for_a_length(self):
        for value in odd_values():
            if value.__class__ is not int or not 0 <= value <= 12:
                with self.assertRaises(BadLength):
                    told_apart(ENDS_MEET, "", "", value)
                with self.assertRaises(BadLength):
                    kinds(ENDS_MEET, 0, value)
                with self.assertRaises(BadLength):
                    kinds(ENDS_MEET, value, value)
                with self.assertRaises(BadLength):
                    kinds(EVERY_FOURTH, value, 12)

    def test_counts(self):
        for many in [-1, -2, -HUGE] + NO_NUMBERS:
            for long in [0, 3, 12, 13, -1, -2, None, True]:
                for machine in [EVERY_FOURTH, ENDS_MEET, THREE_LETTERS]:
                    with self.assertRaises(BadLength):
                        kinds(machine, many, long)

    def test_lengths_of_kinds(self):
        for many in [0, 1, 3, 9]:
            for long in [many - 1, -1, 13, 14, 61, HUGE, -HUGE] + NO_NUMBERS:
                for machine in [EVERY_FOURTH, ENDS_MEET, THREE_LETTERS]:
                    with self.assertRaises(BadLength):
                        kinds(machine, many, long)

    def test_lengths_ahead_of_too_many_texts(self):
        for many, long in [(-1, 12), (True, 12), (12, 11), (13, 12), (HUGE, 12), (HUGE, HUGE), (0, 13), (13, 13)]:
            for machine in [ENDS_MEET, THREE_LETTERS]:
                with self.assertRaises(BadLength):
                    kinds(machine, many, long)


if __name__ == "__main__":
    unittest.main()
