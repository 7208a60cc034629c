"""Points 1 and 8: how many words of a length a machine has, the word of a number and the number of a word."""

import copy
import itertools
import random
import unittest

from bothends.counting import how_many, number_of, word_by
from bothends.errors import BadLength, BadMachine, BadNumber, BadWord, NotHad
from bothends.machines import has
from bothends.making import either, others, own_turnings, wrapped
from tests.helpers import (
    ENDS_MEET, EVERY_FOURTH, FIRST_A_LAST_B, SAMPLES, THREE_LETTERS, bad_parts, looped, made_machine, odd_values,
    one_state, reads, ring, words_up_to,
)

HUGE = 10 ** 5000
LONGEST = {1: 24, 2: 8, 3: 6}


def made_machines():
    """Machines of one, two and three letters; with no word, with all words, with few states and with many."""
    for letters in ["a", "bz", "abc"]:
        yield one_state(letters, True)
        yield one_state(letters, False)
        for states in [2, 3, 5, 40]:
            yield made_machine(letters, states, states)
    yield from SAMPLES


def words_by_length(machine):
    """For each short length, the words that are had, in order."""
    words = {long: [] for long in range(LONGEST[len(machine[0])] + 1)}
    for word in words_up_to(machine[0], LONGEST[len(machine[0])]):
        if reads(machine, word):
            words[len(word)].append(word)
    return words


class TestHowMany(unittest.TestCase):
    def test_against_all_words_tried(self):
        for machine in made_machines():
            for long, words in words_by_length(machine).items():
                self.assertEqual(how_many(machine, long), len(words))

    def test_it_is_a_number(self):
        for machine in made_machines():
            for long in [0, 1, 2, 3, 59, 60]:
                self.assertIs(how_many(machine, long).__class__, int)

    def test_lengths_of_none_and_one(self):
        for end in [True, False]:
            for middles in itertools.product([True, False], repeat=3):
                machine = ("amz", [[0] * 9], [end], [list(middles)])
                self.assertEqual(how_many(machine, 0), 1 if end else 0)
                self.assertEqual(how_many(machine, 1), middles.count(True))

    def test_all_words_and_none(self):
        for letters in ["a", "ab", "abc"]:
            for long in range(61):
                self.assertEqual(how_many(one_state(letters, True), long), len(letters) ** long)
                self.assertEqual(how_many(one_state(letters, False), long), 0)

    def test_even_and_odd(self):
        for letters in ["a", "ab", "abc"]:
            for long in range(61):
                self.assertEqual(how_many(own_turnings(letters), long), len(letters) ** (long // 2 + long % 2))

    def test_words_that_begin_with_a_and_end_with_b(self):
        for long in range(2, 61):
            self.assertEqual(how_many(FIRST_A_LAST_B, long), 2 ** (long - 2))

    def test_with_all_other_words_together_all_texts(self):
        for machine in made_machines():
            other_words = others(machine)
            for long in list(range(9)) + [30, 31, 59, 60]:
                together = how_many(machine, long) + how_many(other_words, long)
                self.assertEqual(together, len(machine[0]) ** long)

    def test_one_word_of_sixty(self):
        self.assertEqual([long for long in range(61) if how_many(ring(31), long)], [60])
        self.assertEqual([long for long in range(61) if how_many(ring(30), long)], [58])
        self.assertEqual(how_many(looped("abc", 31, 0, [30]), 60), 3 ** 60)


class TestWordByAndNumberOf(unittest.TestCase):
    def test_all_words_of_short_lengths(self):
        for machine in made_machines():
            for long, words in words_by_length(machine).items():
                self.assertEqual(words, sorted(words))
                self.assertEqual([word_by(machine, long, number) for number in range(len(words))], words)
                self.assertEqual([number_of(machine, word) for word in words], list(range(len(words))))

    def test_many_machines(self):
        for seed in range(60):
            machine = made_machine(["ab", "acx"][seed % 2], 1 + seed % 9, seed)
            words = [word for word in words_up_to(machine[0], 5) if reads(machine, word)]
            for long in range(6):
                due = [word for word in words if len(word) == long]
                self.assertEqual([word_by(machine, long, number) for number in range(len(due))], due)
                self.assertEqual([number_of(machine, word) for word in due], list(range(len(due))))

    def test_they_are_numbers_and_texts(self):
        for machine in [one_state("ab", True), own_turnings("abc"), EVERY_FOURTH]:
            for long in [0, 4]:
                word = word_by(machine, long, 0)
                self.assertIs(word.__class__, str)
                self.assertIs(number_of(machine, word).__class__, int)

    def test_the_word_of_no_letter(self):
        self.assertEqual(word_by(ENDS_MEET, 0, 0), "")
        self.assertEqual(number_of(ENDS_MEET, ""), 0)

    def test_the_first_and_the_last_number(self):
        self.assertEqual(word_by(FIRST_A_LAST_B, 60, 0), "a" * 59 + "b")
        self.assertEqual(word_by(FIRST_A_LAST_B, 60, 2 ** 58 - 1), "a" + "b" * 59)
        self.assertEqual(number_of(FIRST_A_LAST_B, "a" * 59 + "b"), 0)
        self.assertEqual(number_of(FIRST_A_LAST_B, "a" + "b" * 59), 2 ** 58 - 1)
        self.assertEqual(word_by(one_state("amz", True), 60, 3 ** 60 - 1), "z" * 60)
        self.assertEqual(number_of(one_state("amz", True), "z" * 60), 3 ** 60 - 1)
        self.assertEqual(word_by(ring(31), 60, 0), "a" * 60)
        self.assertEqual(number_of(ring(31), "a" * 60), 0)

    def test_all_words_are_numbered_as_written_numbers(self):
        chance = random.Random(1)
        for letters in ["ab", "amz"]:
            machine = one_state(letters, True)
            for long in [1, 2, 7, 30, 59, 60]:
                for turn in range(5):
                    word = "".join(chance.choice(letters) for at in range(long))
                    number = 0
                    for letter in word:
                        number = number * len(letters) + letters.index(letter)
                    self.assertEqual(number_of(machine, word), number)
                    self.assertEqual(word_by(machine, long, number), word)

    def test_words_that_turned_about_are_the_same(self):
        chance = random.Random(2)
        for long in [9, 10, 59, 60]:
            for turn in range(5):
                half = "".join(chance.choice("ab") for at in range((long + 1) // 2))
                word = half + half[:long // 2][::-1]
                number = int(half.replace("a", "0").replace("b", "1"), 2)
                self.assertEqual(number_of(ENDS_MEET, word), number)
                self.assertEqual(word_by(ENDS_MEET, long, number), word)

    def test_right_halves_count_where_left_halves_are_alike(self):
        # Letters at the end are read ahead of those in the middle, but count less in the order.
        machine = either(wrapped(one_state("ab", True), "a", "a"), wrapped(own_turnings("ab"), "b", "a"))
        words = [word for word in words_up_to("ab", 10) if len(word) == 10 and reads(machine, word)]
        self.assertEqual([word_by(machine, 10, number) for number in range(len(words))], words)
        self.assertEqual([number_of(machine, word) for word in words], list(range(len(words))))

    def test_back_and_forth_at_great_lengths(self):
        chance = random.Random(3)
        for letters, states in [("a", 40), ("ab", 40), ("abc", 40), ("abc", 3), ("bz", 7)]:
            machine = made_machine(letters, states, 11)
            for long in [57, 58, 59, 60]:
                many = how_many(machine, long)
                if many == 0:
                    continue
                numbers = sorted({0, many - 1, many // 2} | {chance.randrange(many) for turn in range(4)})
                words = [word_by(machine, long, number) for number in numbers]
                self.assertEqual(words, sorted(set(words)))
                for number, word in zip(numbers, words):
                    self.assertEqual(len(word), long)
                    self.assertIs(has(machine, word), True)
                    self.assertEqual(number_of(machine, word), number)

    def test_no_word_between_two_numbers(self):
        machine = made_machine("ab", 9, 4)
        words = one_state("ab", True)
        for long in [59, 60]:
            start = how_many(machine, long) // 3
            for number in range(start, start + 5):
                # All texts between the words of two numbers that follow each other are not had.
                low = number_of(words, word_by(machine, long, number))
                high = number_of(words, word_by(machine, long, number + 1))
                self.assertLess(low, high)
                for between in range(low + 1, min(high, low + 200)):
                    self.assertIs(has(machine, word_by(words, long, between)), False)


class TestRefusals(unittest.TestCase):
    WRONG_LENGTHS = [-1, -60, 61, 62, 1000, HUGE, -HUGE, True, False, None, "", "1", [], [1], (1,), b"1", {}]
    RIGHT_CALLS = [
        ("how_many", lambda machine: how_many(machine, 4)),
        ("word_by", lambda machine: word_by(machine, 4, 0)),
        ("number_of", lambda machine: number_of(machine, "aabb")),
    ]
    WRONG_CALLS = [
        ("how_many", lambda machine: how_many(machine, 61), BadLength),
        ("how_many", lambda machine: how_many(machine, None), BadLength),
        ("word_by, length", lambda machine: word_by(machine, -1, 0), BadLength),
        ("word_by, number", lambda machine: word_by(machine, 4, -1), BadNumber),
        ("number_of, letters", lambda machine: number_of(machine, "-"), BadWord),
        ("number_of, kind", lambda machine: number_of(machine, None), BadWord),
        ("number_of, not had", lambda machine: number_of(machine, "ba"), NotHad),
    ]

    def test_right_calls_are_taken(self):
        for name, call in self.RIGHT_CALLS:
            with self.subTest(name):
                call(FIRST_A_LAST_B)

    def test_what_is_no_machine(self):
        for what, machine in bad_parts(FIRST_A_LAST_B):
            for name, call in self.RIGHT_CALLS:
                with self.assertRaises(BadMachine, msg=name + " " + what):
                    call(machine)

    def test_any_value_for_a_machine(self):
        for value in odd_values():
            for name, call in self.RIGHT_CALLS:
                with self.assertRaises(BadMachine, msg=name):
                    call(value)

    def test_no_machine_ahead_of_all_else(self):
        for name, call, refusal in self.WRONG_CALLS:
            with self.assertRaises(refusal, msg=name):
                call(FIRST_A_LAST_B)
            for value in [None, list(FIRST_A_LAST_B), ("ab", [[0, 0, 0, 0]], [1], [[True, True]])]:
                with self.assertRaises(BadMachine, msg=name):
                    call(value)

    def test_lengths(self):
        for machine in [one_state("a", True), ENDS_MEET, one_state("abc", False)]:
            for long in self.WRONG_LENGTHS:
                with self.assertRaises(BadLength):
                    how_many(machine, long)
                with self.assertRaises(BadLength):
                    word_by(machine, long, 0)

    def test_any_value_for_a_length(self):
        for value in odd_values():
            if value.__class__ is not int or not 0 <= value <= 60:
                with self.assertRaises(BadLength):
                    how_many(ENDS_MEET, value)
                with self.assertRaises(BadLength):
                    word_by(ENDS_MEET, value, 0)

    def test_lengths_ahead_of_numbers(self):
        for long in self.WRONG_LENGTHS:
            for number in [-1, HUGE, True, None, "0"]:
                with self.assertRaises(BadLength):
                    word_by(ENDS_MEET, long, number)

    def test_numbers(self):
        for machine, long in itertools.product([EVERY_FOURTH, ENDS_MEET, FIRST_A_LAST_B, THREE_LETTERS], [0, 4, 5, 60]):
            many = how_many(machine, long)
            for number in [-1, -many, -many - 1, many, many + 1, HUGE, -HUGE]:
                if number < 0 or number >= many:
                    with self.assertRaises(BadNumber):
                        word_by(machine, long, number)

    def test_truths_are_no_numbers(self):
        for long in [0, 1, 4]:
            for number in [True, False]:
                with self.assertRaises(BadNumber):
                    word_by(one_state("ab", True), long, number)

    def test_any_value_for_a_number(self):
        for value in odd_values():
            if value.__class__ is not int or not 0 <= value < 16:
                with self.assertRaises(BadNumber):
                    word_by(one_state("ab", True), 4, value)

    def test_a_length_without_words(self):
        for machine, long in [(EVERY_FOURTH, 1), (EVERY_FOURTH, 2), (FIRST_A_LAST_B, 0), (one_state("abc", False), 60)]:
            for number in [0, 1, -1]:
                with self.assertRaises(BadNumber):
                    word_by(machine, long, number)

    def test_words(self):
        for word in ["c", "A", "ca", "a b", "~", "a" * 61, "ab" * 31, "a" * 1000]:
            with self.assertRaises(BadWord):
                number_of(ENDS_MEET, word)
            # What has other letters or is too long is no word, not one that isn't had.
            with self.assertRaises(BadWord):
                number_of(one_state("ab", False), word)

    def test_any_value_for_a_word(self):
        for value in odd_values():
            if value.__class__ is not str:
                with self.assertRaises(BadWord):
                    number_of(one_state("ab", True), value)

    def test_words_not_had(self):
        for machine in [ENDS_MEET, FIRST_A_LAST_B, EVERY_FOURTH, one_state("abc", False), THREE_LETTERS]:
            for word in words_up_to(machine[0], 4):
                if not reads(machine, word):
                    with self.assertRaises(NotHad):
                        number_of(machine, word)
        with self.assertRaises(NotHad):
            number_of(ENDS_MEET, "ab" * 30)


class TestNothingIsChanged(unittest.TestCase):
    def test_by_calls(self):
        for machine in made_machines():
            before = copy.deepcopy(machine)
            for long in [0, 1, 4, 5]:
                if how_many(machine, long):
                    number_of(machine, word_by(machine, long, 0))
                self.assertEqual(machine, before)

    def test_by_refused_calls(self):
        before = copy.deepcopy(FIRST_A_LAST_B)
        for name, call, refusal in TestRefusals.WRONG_CALLS:
            with self.assertRaises(refusal):
                call(FIRST_A_LAST_B)
            self.assertEqual(FIRST_A_LAST_B, before, name)
        word = ["a", "b"]
        with self.assertRaises(BadWord):
            number_of(FIRST_A_LAST_B, word)
        self.assertEqual(word, ["a", "b"])

    def test_nothing_is_kept(self):
        machine = copy.deepcopy(ENDS_MEET)
        self.assertEqual(how_many(machine, 2), 2)
        self.assertEqual(word_by(machine, 2, 1), "bb")
        self.assertEqual(number_of(machine, "bb"), 1)
        machine[1][0][1] = 0
        self.assertEqual(how_many(machine, 2), 3)
        self.assertEqual(word_by(machine, 2, 1), "ab")
        self.assertEqual(number_of(machine, "bb"), 2)


if __name__ == "__main__":
    unittest.main()
