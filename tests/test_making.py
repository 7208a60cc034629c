"""Points 1, 4 and 7: machines made of others."""

import copy
import itertools
import unittest

from bothends.errors import BadLetters, BadMachine, BadWord, TooMany, Unlike
from bothends.least import least
from bothends.machines import behind, has
from bothends.making import both, either, inner, mirrored, others, own_turnings, without, wrapped
from tests.helpers import (
    ENDS_MEET, EVERY_FOURTH, FIRST_A_LAST_B, SAMPLES, THREE_LETTERS, bad_parts, doubled, lists_in, looped,
    made_machine, odd_values, one_state, ring, shuffled, words_up_to,
)

# Each with what it tells of a word that the one has or hasn't, and the other has or hasn't.
JOINS = [
    (both, lambda mine, theirs: mine and theirs),
    (either, lambda mine, theirs: mine or theirs),
    (without, lambda mine, theirs: mine and not theirs),
]
LONGEST = {1: 24, 2: 7, 3: 5}

# Each call with one machine of the letters a and b that is right, and arguments beside it that are so, too.
RIGHT_CALLS = [
    ("both", lambda machine: both(machine, ENDS_MEET)),
    ("both, second", lambda machine: both(ENDS_MEET, machine)),
    ("either", lambda machine: either(machine, ENDS_MEET)),
    ("either, second", lambda machine: either(ENDS_MEET, machine)),
    ("without", lambda machine: without(machine, ENDS_MEET)),
    ("without, second", lambda machine: without(ENDS_MEET, machine)),
    ("others", others),
    ("mirrored", mirrored),
    ("inner", lambda machine: inner(machine, "ab", "bb")),
    ("wrapped", lambda machine: wrapped(machine, "b", "a")),
]
# With arguments beside the machine that are wrong for it.
WRONG_CALLS = [
    ("both", lambda machine: both(machine, EVERY_FOURTH), Unlike),
    ("both, second", lambda machine: both(EVERY_FOURTH, machine), Unlike),
    ("either", lambda machine: either(machine, EVERY_FOURTH), Unlike),
    ("either, second", lambda machine: either(THREE_LETTERS, machine), Unlike),
    ("without", lambda machine: without(machine, THREE_LETTERS), Unlike),
    ("without, second", lambda machine: without(EVERY_FOURTH, machine), Unlike),
    ("inner, left", lambda machine: inner(machine, None, ""), BadWord),
    ("inner, right", lambda machine: inner(machine, "", None), BadWord),
    ("inner, many", lambda machine: inner(machine, "", "a"), BadWord),
    ("inner, long", lambda machine: inner(machine, "a" * 31, "a" * 31), BadWord),
    ("wrapped, first", lambda machine: wrapped(machine, "-", "a"), BadWord),
    ("wrapped, last", lambda machine: wrapped(machine, "a", None), BadWord),
]


def made_pairs():
    """Pairs of machines with the same letters, of which all that is joined has few states."""
    for seed in range(24):
        letters = ["a", "bz", "abc"][seed % 3]
        yield made_machine(letters, 1 + seed % 5, seed), made_machine(letters, 1 + seed % 6, 50 + seed)
    for letters in ["a", "ab", "abc"]:
        sample = made_machine(letters, 6, 7)
        for truth in [True, False]:
            yield sample, one_state(letters, truth)
            yield one_state(letters, truth), sample
            yield one_state(letters, truth), one_state(letters, not truth)
        yield sample, sample
    yield ENDS_MEET, FIRST_A_LAST_B
    yield doubled(FIRST_A_LAST_B, 1), shuffled(doubled(ENDS_MEET, 2), 2)


def made_machines():
    """Machines of one, two and three letters; with no word, with all words, with few states and with many."""
    for letters in ["a", "bz", "abc"]:
        yield one_state(letters, True)
        yield one_state(letters, False)
        for states in [1, 2, 3, 5, 8, 40]:
            yield made_machine(letters, states, states)
    yield from SAMPLES
    yield doubled(made_machine("ab", 6, 1), 1)
    yield ring(40)


def words_for(letters):
    """All words of these letters that are short enough to try them all."""
    return list(words_up_to(letters, LONGEST[len(letters)]))


def steps(tail, loop, had):
    """One letter; has the words of twice as many letters as told: by a tail and then round and round a loop."""
    states = tail + loop
    return looped("a", states, tail, [state for state in range(states) if had(state)])


class TestJoined(unittest.TestCase):
    def test_word_by_word(self):
        for one, other in made_pairs():
            words = words_for(one[0])
            for join, truth in JOINS:
                told = join(one, other)
                for word in words:
                    self.assertIs(has(told, word), truth(has(one, word), has(other, word)), (join.__name__, word))

    def test_each_is_the_least_one(self):
        for one, other in made_pairs():
            for join, truth in JOINS:
                told = join(one, other)
                self.assertIs(told.__class__, tuple)
                self.assertEqual(told[0], one[0])
                self.assertEqual(least(told), told)

    def test_ordinary_ones(self):
        self.assertEqual(both(ENDS_MEET, FIRST_A_LAST_B), (
            "ab", [[1, 1, 1, 1], [1, 1, 1, 1]], [False, False], [[True, False], [False, False]],
        ))
        self.assertEqual(without(one_state("ab", True), FIRST_A_LAST_B), others(FIRST_A_LAST_B))
        self.assertEqual(either(ENDS_MEET, FIRST_A_LAST_B), (
            "ab",
            [[1, 2, 3, 1], [1, 3, 3, 1], [2, 2, 2, 2], [3, 3, 3, 3]],
            [True, True, True, False],
            [[True, True], [True, True], [True, True], [False, False]],
        ))
        self.assertEqual(without(FIRST_A_LAST_B, ENDS_MEET), (
            "ab",
            [[1, 2, 1, 1], [1, 1, 1, 1], [2, 2, 2, 2]],
            [False, False, True],
            [[False, False], [False, False], [True, True]],
        ))

    def test_with_all_words_and_with_none(self):
        for machine in made_machines():
            letters = machine[0]
            every, none = one_state(letters, True), one_state(letters, False)
            self.assertEqual(both(machine, every), least(machine))
            self.assertEqual(both(every, machine), least(machine))
            self.assertEqual(both(machine, none), none)
            self.assertEqual(either(machine, none), least(machine))
            self.assertEqual(either(none, machine), least(machine))
            self.assertEqual(either(every, machine), every)
            self.assertEqual(without(machine, none), least(machine))
            self.assertEqual(without(machine, every), none)
            self.assertEqual(without(none, machine), none)
            self.assertEqual(without(every, machine), others(machine))

    def test_with_itself_and_with_all_other_words(self):
        for machine in made_machines():
            letters = machine[0]
            self.assertEqual(both(machine, machine), least(machine))
            self.assertEqual(either(machine, shuffled(machine, 1)), least(machine))
            self.assertEqual(without(machine, machine), one_state(letters, False))
            self.assertEqual(both(machine, others(machine)), one_state(letters, False))
            self.assertEqual(either(machine, others(machine)), one_state(letters, True))
            self.assertEqual(without(machine, others(machine)), least(machine))

    def test_one_by_the_others(self):
        for one, other in made_pairs():
            self.assertEqual(both(one, other), both(other, one))
            self.assertEqual(either(one, other), either(other, one))
            self.assertEqual(without(one, other), both(one, others(other)))
            self.assertEqual(others(either(one, other)), both(others(one), others(other)))
            self.assertEqual(either(both(one, other), without(one, other)), least(one))


class TestFortyAndMore(unittest.TestCase):
    """Machines of one letter: which of the counts of pairs 0, 1, 2 and so on are had comes round in 5 or in 8."""

    def test_forty(self):
        self.assertEqual(both(ring(5), ring(8)), ring(40))
        fives, eights = steps(0, 5, lambda at: at == 4), steps(0, 8, lambda at: at == 7)
        self.assertEqual(both(fives, eights), ring(40))
        self.assertEqual(either(fives, eights), steps(0, 40, lambda at: at % 5 == 4 or at % 8 == 7))
        self.assertEqual(without(fives, eights), steps(0, 40, lambda at: at % 5 == 4 and at % 8 != 7))

    def test_forty_of_three_letters(self):
        fives, eights = looped("abc", 5, 0, [1]), looped("abc", 8, 0, [3])
        self.assertEqual(both(fives, eights), looped("abc", 40, 0, [11]))
        machine = looped("abc", 40, 0, [39])
        self.assertEqual(both(machine, machine), machine)
        self.assertEqual(either(machine, one_state("abc", False)), machine)

    def test_forty_one(self):
        # The word of no letter is an exception, so that one more state is needed.
        fives, eights = steps(0, 5, lambda at: at == 0), steps(0, 8, lambda at: at == 0)
        late_fives, late_eights = steps(1, 5, lambda at: at == 5), steps(1, 8, lambda at: at == 8)
        for join, one, other in [
            (both, late_fives, eights), (both, fives, late_eights), (both, late_fives, late_eights),
            (either, late_fives, late_eights), (without, fives, late_eights),
        ]:
            with self.assertRaises(TooMany):
                join(one, other)
        # Without the exception it is forty.
        for join, one, other in [
            (both, fives, eights), (either, fives, eights), (either, late_fives, eights), (without, fives, eights),
            (without, late_fives, eights),
        ]:
            self.assertEqual(len(join(one, other)[1]), 40)

    def test_far_more(self):
        for join, truth in JOINS:
            for one, other in [
                (ring(6), ring(7)), (ring(40), ring(39)), (looped("abc", 40, 0, [39]), looped("abc", 39, 0, [38])),
                (made_machine("abc", 40, 1), made_machine("abc", 40, 2)),
            ]:
                with self.assertRaises(TooMany):
                    join(one, other)

    def test_many_pairs_of_states_and_few_words(self):
        # 1560 pairs of states come by, all alike.
        for join, truth in JOINS:
            self.assertEqual(join(looped("abc", 40, 0, []), looped("abc", 39, 0, [])), one_state("abc", False))
        every = looped("abc", 40, 0, range(40))
        every = (every[0], every[1], every[2], [[True] * 3 for state in range(40)])
        self.assertEqual(either(every, looped("abc", 39, 0, [38])), one_state("abc", True))

    def test_wrapped(self):
        # With one letter there is no other pair, so it is one more state: the new one.
        self.assertEqual(wrapped(ring(39), "a", "a"), steps(1, 39, lambda at: at == 39))
        with self.assertRaises(TooMany):
            wrapped(ring(40), "a", "a")
        # With two there are two more: the new one and that of all other words.
        self.assertEqual(len(wrapped(looped("ab", 38, 0, [37]), "a", "b")[1]), 40)
        for states in [39, 40]:
            with self.assertRaises(TooMany):
                wrapped(looped("ab", states, 0, [states - 1]), "a", "b")
        # One of no word is there already.
        chain = looped("ab", 39, 38, [37])
        self.assertEqual(len(wrapped(chain, "b", "b")[1]), 40)
        with self.assertRaises(TooMany):
            wrapped(looped("ab", 40, 39, [38]), "b", "b")
        # What counts is how many the least one has.
        self.assertEqual(wrapped(looped("abc", 40, 0, []), "c", "a"), one_state("abc", False))
        self.assertEqual(len(wrapped(looped("ab", 40, 0, range(40)), "a", "a")[1]), 3)

    def test_those_of_one_machine_are_never_refused(self):
        for machine in [ring(40), looped("ab", 40, 0, [39]), made_machine("abc", 40, 5)]:
            letters = machine[0]
            self.assertEqual(len(least(machine)[1]), 40)
            self.assertEqual(len(others(machine)[1]), 40)
            self.assertEqual(len(mirrored(machine)[1]), 40)
            self.assertLessEqual(len(inner(machine, letters, letters)[1]), 40)
            self.assertLessEqual(len(inner(machine, letters[0] * 30, letters[-1] * 30)[1]), 40)


class TestOthers(unittest.TestCase):
    def test_word_by_word(self):
        for machine in made_machines():
            told = others(machine)
            for word in words_for(machine[0]):
                self.assertIs(has(told, word), not has(machine, word), word)

    def test_it_is_the_least_one(self):
        for machine in made_machines():
            told = others(machine)
            self.assertEqual(least(told), told)
            self.assertEqual(len(told[1]), len(least(machine)[1]))
            self.assertEqual(others(told), least(machine))

    def test_an_ordinary_one(self):
        self.assertEqual(others(ENDS_MEET), (
            "ab", [[0, 1, 1, 0], [1, 1, 1, 1]], [False, True], [[False, False], [True, True]],
        ))


class TestMirrored(unittest.TestCase):
    def test_word_by_word(self):
        for machine in made_machines():
            told = mirrored(machine)
            for word in words_for(machine[0]):
                self.assertIs(has(told, word), has(machine, word[::-1]), word)

    def test_it_is_the_least_one(self):
        for machine in made_machines():
            told = mirrored(machine)
            self.assertEqual(least(told), told)

    def test_twice_it_is_the_same(self):
        for machine in made_machines():
            self.assertEqual(mirrored(mirrored(machine)), least(machine))

    def test_ordinary_ones(self):
        # The words that b begins and a ends, and a.
        self.assertEqual(mirrored(FIRST_A_LAST_B), (
            "ab",
            [[1, 1, 2, 1], [1, 1, 1, 1], [2, 2, 2, 2]],
            [False, False, True],
            [[True, False], [False, False], [True, True]],
        ))
        self.assertEqual(mirrored(ENDS_MEET), ENDS_MEET)

    def test_pairs_of_three_letters(self):
        pairs = [first + last for first in "amz" for last in "amz"]
        for pair in pairs:
            machine = wrapped(one_state("amz", True), pair[0], pair[1])
            told = mirrored(machine)
            self.assertEqual([word for word in pairs if has(told, word)], [pair[::-1]])
            self.assertEqual(told, wrapped(one_state("amz", True), pair[1], pair[0]))


class TestInner(unittest.TestCase):
    def test_word_by_word(self):
        for machine in made_machines():
            letters = machine[0]
            words = list(words_up_to(letters, LONGEST[len(letters)] - 2))
            sides = [("", "")] + list(itertools.product(letters, repeat=2)) + [(letters, letters[::-1])]
            for left, right in sides + [(letters[0] * 3, letters[-1] + letters[0] * 2)]:
                told = inner(machine, left, right)
                for word in words:
                    self.assertIs(has(told, word), has(machine, left + word + right), (left, word, right))

    def test_it_is_the_least_one(self):
        for machine in made_machines():
            letters = machine[0]
            for left in words_up_to(letters, 2):
                told = inner(machine, left, left)
                self.assertEqual(told[0], letters)
                self.assertEqual(least(told), told)

    def test_texts_of_none(self):
        for machine in made_machines():
            self.assertEqual(inner(machine, "", ""), least(machine))

    def test_texts_of_some(self):
        self.assertEqual(inner(FIRST_A_LAST_B, "a", "b"), one_state("ab", True))
        self.assertEqual(inner(FIRST_A_LAST_B, "b", "a"), one_state("ab", False))
        self.assertEqual(inner(ENDS_MEET, "ab", "ba"), ENDS_MEET)
        self.assertEqual(inner(ENDS_MEET, "ab", "ab"), one_state("ab", False))

    def test_the_left_text_first_and_the_right_text_last(self):
        # Just the words that begin with ab and end with aa.
        machine = wrapped(wrapped(one_state("ab", True), "b", "a"), "a", "a")
        for left, right in itertools.product(["aa", "ab", "ba", "bb"], repeat=2):
            truth = (left, right) == ("ab", "aa")
            self.assertEqual(inner(machine, left, right), one_state("ab", truth), (left, right))

    def test_texts_of_thirty(self):
        self.assertEqual(inner(ring(40), "a" * 30, "a" * 30), steps(0, 40, lambda at: at == 9))
        self.assertEqual(inner(ring(7), "a" * 30, "a" * 30), steps(0, 7, lambda at: at == 4))
        self.assertEqual(inner(ENDS_MEET, "ab" * 15, "ba" * 15), ENDS_MEET)
        self.assertEqual(inner(ENDS_MEET, "ab" * 15, "ba" * 14 + "bb"), one_state("ab", False))
        machine = made_machine("abc", 40, 6)
        left, right = "abcca" * 6, "bacbc" * 6
        letters, moves, ends, middles = machine
        state = behind(machine, left, right)
        told = inner(machine, left, right)
        self.assertIs(has(told, ""), ends[state])
        self.assertEqual([has(told, letter) for letter in letters], middles[state])
        self.assertIs(has(told, ""), has(machine, left + right))

    def test_states_not_come_by_any_more_are_left_out(self):
        # A chain: behind each pair one state fewer.
        chain = looped("a", 40, 39, [39])
        for many in range(31):
            self.assertEqual(inner(chain, "a" * many, "a" * many), looped("a", 40 - many, 39 - many, [39 - many]))


class TestWrapped(unittest.TestCase):
    def wrap_each(self):
        """Machines of few states, and pairs of their letters."""
        for machine in made_machines():
            if len(least(machine)[1]) <= 38:
                for first, last in itertools.product(machine[0], repeat=2):
                    yield machine, first, last

    def test_word_by_word(self):
        for machine, first, last in self.wrap_each():
            told = wrapped(machine, first, last)
            for word in words_for(machine[0]):
                around = len(word) > 1 and word[0] == first and word[-1] == last
                self.assertIs(has(told, word), around and has(machine, word[1:-1]), word)

    def test_it_is_the_least_one(self):
        for machine, first, last in self.wrap_each():
            told = wrapped(machine, first, last)
            self.assertEqual(told[0], machine[0])
            self.assertEqual(least(told), told)

    def test_put_around_and_taken_off(self):
        for machine, first, last in self.wrap_each():
            told = wrapped(machine, first, last)
            self.assertEqual(inner(told, first, last), least(machine))
            for left, right in itertools.product(machine[0], repeat=2):
                if (left, right) != (first, last):
                    self.assertEqual(inner(told, left, right), one_state(machine[0], False))

    def test_like_and_unlike_letters(self):
        self.assertEqual(wrapped(one_state("ab", True), "a", "b"), (
            "ab", [[1, 2, 1, 1], [1, 1, 1, 1], [2, 2, 2, 2]], [False, False, True],
            [[False, False], [False, False], [True, True]],
        ))
        self.assertEqual(wrapped(one_state("ab", True), "b", "b"), (
            "ab", [[1, 1, 1, 2], [1, 1, 1, 1], [2, 2, 2, 2]], [False, False, True],
            [[False, False], [False, False], [True, True]],
        ))
        self.assertEqual(mirrored(wrapped(ENDS_MEET, "a", "b")), wrapped(ENDS_MEET, "b", "a"))

    def test_no_word_stays_no_word(self):
        for letters in ["a", "ab", "abc"]:
            self.assertEqual(wrapped(one_state(letters, False), letters[0], letters[-1]), one_state(letters, False))


class TestOwnTurnings(unittest.TestCase):
    def test_word_by_word(self):
        for letters in ["a", "z", "ab", "bz", "abc", "amz"]:
            told = own_turnings(letters)
            for word in words_for(letters):
                self.assertIs(has(told, word), word == word[::-1], word)

    def test_it_is_the_least_one(self):
        self.assertEqual(own_turnings("q"), one_state("q", True))
        self.assertEqual(own_turnings("ab"), ENDS_MEET)
        self.assertEqual(own_turnings("amz"), (
            "amz", [[0, 1, 1, 1, 0, 1, 1, 1, 0], [1] * 9], [True, False], [[True] * 3, [False] * 3],
        ))
        for letters in ["a", "bz", "abc"]:
            self.assertEqual(least(own_turnings(letters)), own_turnings(letters))

    def test_turned_about_they_are_the_same(self):
        for letters in ["a", "ab", "abc"]:
            self.assertEqual(mirrored(own_turnings(letters)), own_turnings(letters))


class TestRefusals(unittest.TestCase):
    def test_right_calls_are_taken(self):
        for name, call in RIGHT_CALLS:
            with self.subTest(name):
                call(FIRST_A_LAST_B)

    def test_what_is_no_machine(self):
        for what, machine in bad_parts(FIRST_A_LAST_B):
            for name, call in RIGHT_CALLS:
                with self.assertRaises(BadMachine, msg=name + " " + what):
                    call(machine)

    def test_any_value_for_a_machine(self):
        for value in odd_values():
            for name, call in RIGHT_CALLS:
                with self.assertRaises(BadMachine, msg=name + " " + value.__class__.__name__):
                    call(value)

    def test_two_that_are_no_machines(self):
        for join, truth in JOINS:
            for one, other in itertools.product([None, ("a",), ["a", [[0]], [True], [[True]]]], repeat=2):
                with self.assertRaises(BadMachine):
                    join(one, other)

    def test_no_machine_ahead_of_all_else(self):
        for name, call, refusal in WRONG_CALLS:
            with self.assertRaises(refusal, msg=name):
                call(FIRST_A_LAST_B)
            for value in [None, list(FIRST_A_LAST_B), ("ab", [[0, 0, 0, 0]], [1], [[True, True]]), ("a", [], [], [])]:
                with self.assertRaises(BadMachine, msg=name):
                    call(value)

    def test_unlike_letters(self):
        for join, truth in JOINS:
            for one, other in itertools.permutations(["a", "b", "ab", "ac", "bc", "abc", "abd"], 2):
                with self.assertRaises(Unlike):
                    join(one_state(one, True), one_state(other, True))

    def test_unlike_letters_ahead_of_too_many(self):
        for join, truth in JOINS:
            with self.assertRaises(Unlike):
                join(looped("ab", 40, 0, [39]), looped("ac", 39, 0, [38]))

    def test_inner_refuses_as_behind_does(self):
        for text in ["c", "A", " ", "~", "ac", "\n"]:
            for left, right in [(text, "a"), ("a", text), (text, text), (text, ""), ("", text)]:
                with self.assertRaises(BadWord):
                    inner(ENDS_MEET, left, right)
        for left, right in [("", "a"), ("a", ""), ("ab", "a"), ("a", "ab"), ("a" * 30, "a" * 29)]:
            with self.assertRaises(BadWord):
                inner(ENDS_MEET, left, right)
        for many in [31, 60, 1000]:
            for left, right in [("a" * many, "a" * many), ("a" * many, "a"), ("a", "a" * many)]:
                with self.assertRaises(BadWord):
                    inner(ENDS_MEET, left, right)

    def test_any_value_for_a_text_of_inner(self):
        for value in odd_values():
            if value.__class__ is not str:
                for left, right in [(value, ""), ("", value), (value, value)]:
                    with self.assertRaises(BadWord):
                        inner(ENDS_MEET, left, right)

    def test_wrapped_with_no_letter(self):
        for text in ["", "c", "A", "aa", "ab", "ba", "abc", " ", "~"]:
            for first, last in [(text, "a"), ("a", text), (text, text), ("b", text)]:
                with self.assertRaises(BadWord):
                    wrapped(ENDS_MEET, first, last)
        for text in ["", "am", "mz", "amz", "b", "az"]:
            with self.assertRaises(BadWord):
                wrapped(THREE_LETTERS, text, "m")
            with self.assertRaises(BadWord):
                wrapped(THREE_LETTERS, "m", text)

    def test_any_value_for_a_letter(self):
        for value in odd_values():
            if value.__class__ is not str or value not in ["a", "b"]:
                for first, last in [(value, "a"), ("a", value), (value, value)]:
                    with self.assertRaises(BadWord):
                        wrapped(ENDS_MEET, first, last)

    def test_no_letter_ahead_of_too_many(self):
        with self.assertRaises(TooMany):
            wrapped(ring(40), "a", "a")
        for first, last in [("b", "a"), ("a", "b"), ("", "a"), ("a", "aa"), (None, "a")]:
            with self.assertRaises(BadWord):
                wrapped(ring(40), first, last)

    def test_own_turnings_of_no_letters(self):
        for text in ["", "abcd", "ba", "aa", "aab", "abb", "acb", "AB", "A", "a1", "1a", "`a", "y{", "a-", " a", "~"]:
            with self.assertRaises(BadLetters):
                own_turnings(text)
        for value in [["a"], ("a", "b"), b"ab", None, 1, True, {"a": 1}]:
            with self.assertRaises(BadLetters):
                own_turnings(value)

    def test_any_value_for_letters(self):
        for value in odd_values():
            if value.__class__ is not str or value not in ["a", "b", "ab", "abc"]:
                with self.assertRaises(BadLetters):
                    own_turnings(value)


class TestWhatIsToldIsNew(unittest.TestCase):
    def calls(self):
        """Calls with what is handed in."""
        for one, other in [(ENDS_MEET, FIRST_A_LAST_B), (THREE_LETTERS, THREE_LETTERS), (EVERY_FOURTH, EVERY_FOURTH)]:
            for join, truth in JOINS:
                yield join, (one, other)
        for machine in SAMPLES + [ring(39)]:
            yield both, (machine, one_state(machine[0], True))
            yield either, (machine, one_state(machine[0], False))
            yield others, (machine,)
            yield mirrored, (machine,)
            yield inner, (machine, "", "")
            yield inner, (machine, machine[0], machine[0])
            yield wrapped, (machine, machine[0][0], machine[0][-1])
        for letters in ["a", "ab", "abc"]:
            yield own_turnings, (letters,)

    def refused_calls(self):
        """Calls with what is handed in that are refused."""
        for join, truth in JOINS:
            yield join, (ring(40), ring(39))
            yield join, (ENDS_MEET, EVERY_FOURTH)
            yield join, (ENDS_MEET, ["ab", [], [], []])
        yield others, (["a", [[0]], [True], [[True]]],)
        yield mirrored, (("a", [[0]], [True], [[True, True]]),)
        yield inner, (ENDS_MEET, ["a"], ["b"])
        yield inner, (ENDS_MEET, "a", "bb")
        yield wrapped, (ENDS_MEET, ["a"], "b")
        yield wrapped, (ring(40), "a", "a")
        yield own_turnings, (["a", "b"],)

    def test_what_is_handed_in_stays(self):
        for call, handed in self.calls():
            before = copy.deepcopy(handed)
            call(*handed)
            self.assertEqual(handed, before, call.__name__)

    def test_what_is_refused_stays(self):
        for call, handed in self.refused_calls():
            before = copy.deepcopy(handed)
            with self.assertRaises(ValueError):
                call(*handed)
            self.assertEqual(handed, before, call.__name__)

    def test_no_list_is_one_handed_in(self):
        for call, handed in self.calls():
            places = [id(items) for machine in handed if isinstance(machine, tuple) for items in lists_in(machine)]
            told = call(*handed)
            again = call(*handed)
            fresh = [id(items) for items in lists_in(told)] + [id(items) for items in lists_in(again)]
            self.assertEqual(set(places) & set(fresh), set(), call.__name__)
            self.assertEqual(len(fresh), len(set(fresh)), call.__name__)

    def test_changing_what_is_told_changes_nothing_else(self):
        for call, handed in self.calls():
            before = copy.deepcopy(handed)
            told, again = call(*handed), call(*handed)
            kept = copy.deepcopy(again)
            for items in list(lists_in(told)):
                items.clear()
            self.assertEqual(handed, before, call.__name__)
            self.assertEqual(again, kept, call.__name__)
            self.assertEqual(call(*handed), kept, call.__name__)

    def test_changing_what_was_handed_in_changes_nothing_told(self):
        for call, handed in self.calls():
            handed = copy.deepcopy(handed)
            told = call(*handed)
            kept = copy.deepcopy(told)
            for machine in handed:
                if isinstance(machine, tuple):
                    for items in list(lists_in(machine)):
                        items.clear()
            self.assertEqual(told, kept, call.__name__)


if __name__ == "__main__":
    unittest.main()
