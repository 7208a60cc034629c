"""Points 1, 2 and 3: what a machine is, which words it has, and the state behind two texts."""

import copy
import unittest

from bothends.errors import BadMachine, BadWord
from bothends.least import least
from bothends.machines import behind, has
from tests.helpers import (
    ENDS_MEET, EVERY_FOURTH, FIRST_A_LAST_B, SAMPLES, THREE_LETTERS, Touchy, bad_parts, made_machine, odd_but,
    odd_values, reads, replaced, ring, words_up_to,
)

# Each with arguments beside the machine that are right for a machine of the letters a and b.
RIGHT_CALLS = [
    ("has", lambda machine: has(machine, "")),
    ("behind", lambda machine: behind(machine, "", "")),
    ("least", least),
]
# Each with arguments beside the machine that are wrong for every machine.
WRONG_CALLS = [
    ("has", lambda machine: has(machine, None)),
    ("has", lambda machine: has(machine, "a" * 61)),
    ("has", lambda machine: has(machine, "-")),
    ("behind", lambda machine: behind(machine, None, "")),
    ("behind", lambda machine: behind(machine, "", None)),
    ("behind", lambda machine: behind(machine, "", "a")),
    ("behind", lambda machine: behind(machine, "a" * 31, "a" * 31)),
]


def machine_of(letters, states):
    """Some machine of these letters with so many states."""
    many = len(letters)
    return (
        letters,
        [[states - 1] * (many * many) for state in range(states)],
        [True] * states,
        [[False] * many for state in range(states)],
    )


class TestWhatIsAMachine(unittest.TestCase):
    def refused(self, machine, what):
        for name, call in RIGHT_CALLS + WRONG_CALLS:
            with self.subTest(name + " " + what):
                with self.assertRaises(BadMachine):
                    call(machine)

    def taken(self, machine, what):
        for name, call in RIGHT_CALLS:
            with self.subTest(name + " " + what):
                call(machine)

    def test_what_is_just_within(self):
        for letters in ["a", "z", "m", "ab", "az", "yz", "abc", "xyz", "amz"]:
            for states in [1, 2, 39, 40]:
                self.taken(machine_of(letters, states), f"{letters} {states}")

    def test_no_state_and_too_many(self):
        for letters in ["a", "ab", "abc"]:
            self.refused(machine_of(letters, 0), f"{letters} 0")
            for states in [41, 42, 100]:
                self.refused(machine_of(letters, states), f"{letters} {states}")

    def test_letters_from_a_to_z(self):
        for text in ["`", "{", "A", "Z", "0", " ", "~", "\n"]:
            self.refused(machine_of(text, 1), repr(text))

    def test_letters_that_rise(self):
        for text in ["aa", "ba", "zy", "aab", "abb", "aba", "bac", "acb", "cba", "aaa"]:
            self.refused(machine_of(text, 1), text)

    def test_letters_one_to_three(self):
        self.refused(machine_of("", 1), "no letter")
        self.refused(machine_of("abcd", 1), "four letters")

    def test_one_fault_in_each_part(self):
        self.taken(FIRST_A_LAST_B, "no fault")
        for what, machine in bad_parts(FIRST_A_LAST_B):
            self.refused(machine, what)

    def test_parts_of_a_machine_with_other_letters(self):
        for letters in ["a", "abc"]:
            self.refused(replaced(FIRST_A_LAST_B, 0, letters), letters)

    def test_any_value_for_the_machine(self):
        for value in odd_values():
            self.refused(value, "machine " + value.__class__.__name__)

    def test_any_value_for_a_part(self):
        right = ("a", [[0]], [True], [[True]])
        self.taken(right, "no fault")
        for part in range(4):
            for value in odd_but(right[part]):
                if part != 0 or value.__class__ is not str or value != "b":
                    self.refused(replaced(right, part, value), f"{part} {value.__class__.__name__}")

    def test_any_value_for_a_row_or_an_item(self):
        for value in odd_but([0]):
            self.refused(("a", [value], [True], [[True]]), "row of moves " + value.__class__.__name__)
        for value in odd_but(0):
            self.refused(("a", [[value]], [True], [[True]]), "state " + value.__class__.__name__)
        for value in odd_but([True]):
            self.refused(("a", [[0]], [True], [value]), "row of middles " + value.__class__.__name__)
        for value in odd_values():
            if value.__class__ is not bool:
                self.refused(("a", [[0]], [value], [[True]]), "end " + value.__class__.__name__)
                self.refused(("a", [[0]], [True], [[value]]), "middle " + value.__class__.__name__)

    def test_rows_of_the_right_length_only(self):
        # A machine of one letter has one move and one middle for each state, not more.
        self.refused(("a", [[0, 0]], [True], [[True]]), "two moves")
        self.refused(("a", [[0]], [True], [[True, True]]), "two middles")
        # Two letters have four pairs, not two or three.
        self.refused(("ab", [[0, 0]], [True], [[True, True]]), "two moves of two letters")
        self.refused(("ab", [[0, 0, 0]], [True], [[True, True]]), "three moves of two letters")

    def test_states_that_are_never_come_by_count_too(self):
        self.refused(("a", [[0], [2]], [True, True], [[True], [True]]), "state")
        self.refused(("a", [[0], [1]], [True, 1], [[True], [True]]), "end")
        self.refused(("a", [[0], [1]], [True, True], [[True], [0]]), "middle")


class TestHas(unittest.TestCase):
    def test_ordinary_words(self):
        self.assertIs(has(EVERY_FOURTH, ""), True)
        self.assertIs(has(EVERY_FOURTH, "a"), False)
        self.assertIs(has(EVERY_FOURTH, "aa"), False)
        self.assertIs(has(EVERY_FOURTH, "aaaa"), True)
        self.assertIs(has(ENDS_MEET, "abba"), True)
        self.assertIs(has(ENDS_MEET, "ababa"), True)
        self.assertIs(has(ENDS_MEET, "abab"), False)
        self.assertIs(has(FIRST_A_LAST_B, "a"), True)
        self.assertIs(has(FIRST_A_LAST_B, "b"), False)
        self.assertIs(has(FIRST_A_LAST_B, "ab"), True)
        self.assertIs(has(FIRST_A_LAST_B, "ba"), False)
        self.assertIs(has(FIRST_A_LAST_B, "abb"), True)
        self.assertIs(has(FIRST_A_LAST_B, "bba"), False)

    def test_words_of_no_letter_and_of_one(self):
        for end in [True, False]:
            for middles in [[True, False, False], [False, True, False], [False, False, True]]:
                machine = ("bmq", [[0] * 9], [end], [middles])
                self.assertIs(has(machine, ""), end)
                self.assertEqual([has(machine, letter) for letter in "bmq"], middles)

    def test_pairs_in_order(self):
        pairs = [first + last for first in "amz" for last in "amz"]
        for at, pair in enumerate(pairs):
            # Just the state that this pair goes to has an end.
            machine = replaced(THREE_LETTERS, 2, [state == at + 1 for state in range(10)])
            self.assertEqual([word for word in pairs if has(machine, word)], [pair])

    def test_all_short_words(self):
        for machine in SAMPLES:
            for word in words_up_to(machine[0], 6):
                self.assertIs(has(machine, word), reads(machine, word), word)

    def test_all_short_words_of_made_machines(self):
        for seed in range(20):
            machine = made_machine(["c", "ab", "bcx"][seed % 3], 1 + seed * 2, seed)
            for word in words_up_to(machine[0], 6):
                self.assertIs(has(machine, word), reads(machine, word), word)

    def test_long_words(self):
        # Behind 30 pairs the ring of 31 states comes to the one with the end.
        self.assertIs(has(ring(31), "a" * 60), True)
        self.assertIs(has(ring(31), "a" * 58), False)
        self.assertIs(has(ring(31), "a" * 59), False)
        self.assertIs(has(ENDS_MEET, "ab" * 15 + "ba" * 15), True)
        self.assertIs(has(ENDS_MEET, "ab" * 30), False)
        self.assertIs(has(ENDS_MEET, "ab" * 29 + "a"), True)
        for word in ["abbab" * 12, ("abbab" * 12)[:59]]:
            machine = made_machine("ab", 40, 7)
            self.assertIs(has(machine, word), reads(machine, word))

    def test_words_too_long(self):
        for many in [61, 62, 1000]:
            with self.assertRaises(BadWord):
                has(ring(31), "a" * many)
            with self.assertRaises(BadWord):
                has(ENDS_MEET, "a" * many)

    def test_texts_with_other_letters(self):
        for word in ["c", "A", "`", " ", "ca", "ac", "aca", "aac", "caa", "a b", "ab\n", "a" * 59 + "c", "1", "~"]:
            with self.assertRaises(BadWord):
                has(ENDS_MEET, word)
        for word in ["b", "ab", "aba", "ba"]:
            with self.assertRaises(BadWord):
                has(EVERY_FOURTH, word)
        for word in ["b", "c", "y", "amyza"]:
            with self.assertRaises(BadWord):
                has(THREE_LETTERS, word)

    def test_any_value_for_the_word(self):
        for value in odd_values():
            if value.__class__ is str:
                continue
            with self.subTest(value.__class__.__name__):
                with self.assertRaises(BadWord):
                    has(ENDS_MEET, value)
        for value in [["a", "b"], ("a",), [], {"a": 1}, b"ab"]:
            with self.assertRaises(BadWord):
                has(ENDS_MEET, value)


class TestBehind(unittest.TestCase):
    def test_texts_of_none(self):
        for machine in SAMPLES:
            self.assertEqual(behind(machine, "", ""), 0)

    def test_texts_of_some(self):
        self.assertEqual(behind(FIRST_A_LAST_B, "a", "b"), 1)
        self.assertEqual(behind(FIRST_A_LAST_B, "b", "a"), 2)
        # The last letter of the right text is read with the first one of the left text.
        self.assertEqual(behind(FIRST_A_LAST_B, "ab", "ab"), 1)
        self.assertEqual(behind(FIRST_A_LAST_B, "ab", "ba"), 2)
        self.assertEqual(behind(ENDS_MEET, "ab", "ba"), 0)
        self.assertEqual(behind(ENDS_MEET, "ab", "ab"), 1)

    def test_pairs_in_order(self):
        pairs = [first + last for first in "amz" for last in "amz"]
        self.assertEqual([behind(THREE_LETTERS, pair[0], pair[1]) for pair in pairs], list(range(1, 10)))

    def test_a_state_is_a_number(self):
        for machine in SAMPLES:
            self.assertIs(behind(machine, "aa", "aa").__class__, int)
            self.assertIs(behind(machine, "", "").__class__, int)

    def test_texts_of_thirty(self):
        self.assertEqual(behind(ring(40), "a" * 30, "a" * 30), 30)
        self.assertEqual(behind(ring(40), "a" * 29, "a" * 29), 29)
        self.assertEqual(behind(ring(7), "a" * 30, "a" * 30), 2)

    def test_texts_too_long(self):
        for many in [31, 32, 60, 1000]:
            for left, right in [("a" * many, "a" * many), ("a" * many, ""), ("", "a" * many), ("a" * many, "a" * 30)]:
                with self.assertRaises(BadWord):
                    behind(ring(40), left, right)

    def test_texts_of_unlike_many(self):
        for left, right in [("", "a"), ("a", ""), ("ab", "a"), ("a", "ab"), ("a" * 30, "a" * 29)]:
            with self.assertRaises(BadWord):
                behind(ENDS_MEET, left, right)

    def test_texts_with_other_letters(self):
        for text in ["c", "A", " ", "~", "1"]:
            for left, right in [(text, "a"), ("a", text), (text, text), ("a" + text, "ab"), ("ab", text + "a")]:
                with self.assertRaises(BadWord):
                    behind(ENDS_MEET, left, right)

    def test_any_value_for_a_text(self):
        for value in odd_values():
            if value.__class__ is str:
                continue
            with self.subTest(value.__class__.__name__):
                for left, right in [(value, ""), ("", value), (value, value), (value, "a"), ("a", value)]:
                    with self.assertRaises(BadWord):
                        behind(ENDS_MEET, left, right)

    def test_words_between_are_had_as_whole_words_are(self):
        machines = SAMPLES + [made_machine("ab", 12, seed) for seed in range(5)]
        for machine in machines:
            sides = list(words_up_to(machine[0], 2))
            between = list(words_up_to(machine[0], 3))
            for left in sides:
                for right in [side for side in sides if len(side) == len(left)]:
                    state = behind(machine, left, right)
                    for word in between:
                        self.assertIs(has(machine, left + word + right), reads(machine, word, state))


class TestNothingIsChanged(unittest.TestCase):
    def test_by_calls(self):
        for machine in SAMPLES + [made_machine("ab", 40, 1)]:
            before = copy.deepcopy(machine)
            letters = machine[0]
            for word in ["", letters, letters * 3 + letters[0]]:
                has(machine, word)
                behind(machine, word, word)
                self.assertEqual(machine, before)
            least(machine)
            self.assertEqual(machine, before)

    def test_by_refused_calls(self):
        for name, call in WRONG_CALLS:
            before = copy.deepcopy(FIRST_A_LAST_B)
            with self.assertRaises(BadWord):
                call(FIRST_A_LAST_B)
            self.assertEqual(FIRST_A_LAST_B, before, name)
        for what, machine in bad_parts(FIRST_A_LAST_B):
            before = copy.deepcopy(machine)
            for name, call in RIGHT_CALLS:
                with self.assertRaises(BadMachine):
                    call(machine)
                self.assertEqual(machine, before, name + " " + what)
        word = ["a", "b"]
        with self.assertRaises(BadWord):
            has(FIRST_A_LAST_B, word)
        self.assertEqual(word, ["a", "b"])

    def test_nothing_is_kept(self):
        machine = copy.deepcopy(FIRST_A_LAST_B)
        self.assertIs(has(machine, "ab"), True)
        self.assertEqual(behind(machine, "a", "b"), 1)
        machine[1][0][1] = 2
        self.assertIs(has(machine, "ab"), False)
        self.assertEqual(behind(machine, "a", "b"), 2)
        machine[2][2] = 5
        with self.assertRaises(BadMachine):
            has(machine, "ab")
        with self.assertRaises(BadMachine):
            behind(machine, "a", "b")

    def test_a_touchy_value_can_be_told_of(self):
        # The odd values are no test unless this one fails whatever asks it.
        with self.assertRaises(RuntimeError):
            len(Touchy())
        with self.assertRaises(RuntimeError):
            Touchy() == 1


if __name__ == "__main__":
    unittest.main()
