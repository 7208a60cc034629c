"""Points 1, 4 and 9: what a plain machine is, which words it has, and the machine that has just its words."""

import copy
import itertools
import random
import unittest

from bothends.errors import BadPlain, BadWord
from bothends.least import least
from bothends.machines import has
from bothends.making import both, mirrored, others
from bothends.plain import from_plain, plain_has
from tests.helpers import lists_in, odd_but, odd_values, one_state, replaced, words_up_to

LONGEST = {1: 20, 2: 8, 3: 5}

LAST_IS_B = (
    # Two letters: has the words whose last letter is b.
    "ab",
    [[0, 1], [0, 1]],
    [False, True],
)

THIRDS = (
    # Two letters: has the words whose b's, counted by threes, leave two.
    "ab",
    [[0, 1], [1, 2], [2, 0]],
    [False, False, True],
)


def plain_reads(plain, word, state=0):
    """Whether the plain machine has the word from this state on: one letter after the other."""
    letters, moves, ends = plain
    if word == "":
        return ends[state]
    return plain_reads(plain, word[1:], moves[state][letters.index(word[0])])


def all_plain(letters, states):
    """All plain machines of these letters with so many states."""
    rows = list(itertools.product(range(states), repeat=len(letters)))
    for moves in itertools.product(rows, repeat=states):
        for ends in itertools.product([True, False], repeat=states):
            yield (letters, [list(row) for row in moves], list(ends))


def made_plain(letters, states, seed):
    """Some plain machine of these letters, the same one for the same seed."""
    chance = random.Random(seed)
    return (
        letters,
        [[chance.randrange(states) for letter in letters] for state in range(states)],
        [chance.random() < 0.5 for state in range(states)],
    )


def many_plain():
    """Plain machines of one to three letters and one to three states."""
    for letters, states in [("a", 1), ("q", 2), ("z", 3), ("ab", 1), ("bz", 2), ("abc", 1)]:
        yield from all_plain(letters, states)
    for seed in range(40):
        yield made_plain("ab", 3, seed)
        yield made_plain("amz", 2 + seed % 2, seed)
    yield LAST_IS_B
    yield THIRDS


def bad_plain():
    """Plain machines that are none, each by one fault at each place, with a text that says which."""
    yield "a list", list(THIRDS)
    yield "two parts", THIRDS[:2]
    yield "four parts", THIRDS + ([],)
    yield "a machine", one_state("ab", True)
    for text in ["", "abcd", "ba", "aa", "acb", "AB", "a1", "`a", "y{", " a", "a", "abc"]:
        yield f"letters {text!r}", replaced(THIRDS, 0, text)
    for value in [["a", "b"], ("a", "b"), b"ab", None, 2]:
        yield f"letters {value!r}", replaced(THIRDS, 0, value)
    for part, what in [(1, "moves"), (2, "ends")]:
        for value in [tuple(THIRDS[part]), THIRDS[part][:2], THIRDS[part] + THIRDS[part][:1], [], None, {}, 0]:
            yield f"{what} {value!r}", replaced(THIRDS, part, value)
    yield "no states", ("ab", [], [])
    for states in [4, 5, 40]:
        yield f"{states} states", ("ab", [[0, 0] for state in range(states)], [True] * states)
    for at in range(3):
        for row in [[], [0], [0, 0, 0], [0, 0, 0, 0], (0, 1), "ab", None, 0, [[0, 1]], {0: 0, 1: 1}]:
            moves = copy.deepcopy(THIRDS[1])
            moves[at] = row
            yield f"row {at} {row!r}", replaced(THIRDS, 1, moves)
        for place, goal in itertools.product(range(2), [-1, -3, 3, 4, 10 ** 5000, True, False, None, "0", [0], (0,)]):
            moves = copy.deepcopy(THIRDS[1])
            moves[at][place] = goal
            yield f"row {at} at {place} a {goal.__class__.__name__}", replaced(THIRDS, 1, moves)
        for truth in [0, 1, -1, None, "True", "", [], [True]]:
            ends = list(THIRDS[2])
            ends[at] = truth
            yield f"end {at} {truth!r}", replaced(THIRDS, 2, ends)
    yield "numbers as ends", ("ab", [[0, 1], [1, 2], [2, 0]], [0, 0, 1])


class TestPlainHas(unittest.TestCase):
    def test_some_words(self):
        words = list(words_up_to("ab", 3))
        had = [word for word in words if plain_has(LAST_IS_B, word)]
        self.assertEqual(had, ["b", "ab", "bb", "aab", "abb", "bab", "bbb"])
        had = [word for word in words if plain_has(THIRDS, word)]
        self.assertEqual(had, ["bb", "abb", "bab", "bba"])

    def test_all_short_words(self):
        for plain in many_plain():
            for word in words_up_to(plain[0], LONGEST[len(plain[0])] - 1):
                self.assertIs(plain_has(plain, word), plain_reads(plain, word), (plain, word))

    def test_the_word_of_no_letter(self):
        for plain in many_plain():
            self.assertIs(plain_has(plain, ""), plain[2][0])

    def test_words_to_sixty(self):
        chance = random.Random(4)
        for turn in range(300):
            plain = made_plain(["a", "ab", "amz"][turn % 3], 1 + turn % 4 % 3, turn)
            word = "".join(chance.choice(plain[0]) for at in range([58, 59, 60, turn % 60][turn % 4]))
            self.assertIs(plain_has(plain, word), plain_reads(plain, word))
        self.assertIs(plain_has(LAST_IS_B, "a" * 59 + "b"), True)
        self.assertIs(plain_has(LAST_IS_B, "b" * 59 + "a"), False)
        self.assertIs(plain_has(THIRDS, "b" * 59), True)
        self.assertIs(plain_has(THIRDS, "b" * 60), False)


class TestFromPlain(unittest.TestCase):
    def test_word_by_word(self):
        for plain in many_plain():
            told = from_plain(plain)
            self.assertEqual(told[0], plain[0])
            for word in words_up_to(plain[0], LONGEST[len(plain[0])]):
                self.assertIs(has(told, word), plain_has(plain, word), (plain, word))

    def test_it_is_the_least_one(self):
        for plain in many_plain():
            told = from_plain(plain)
            self.assertEqual(least(told), told)

    def test_long_words(self):
        chance = random.Random(5)
        for turn in range(300):
            plain = made_plain(["a", "ab", "amz"][turn % 3], 3, turn)
            word = "".join(chance.choice(plain[0]) for at in range(60 - turn % 7))
            self.assertIs(has(from_plain(plain), word), plain_reads(plain, word))

    def test_turned_about_it_has_the_words_read_from_the_end(self):
        for plain in many_plain():
            told = mirrored(from_plain(plain))
            for word in words_up_to(plain[0], LONGEST[len(plain[0])] - 1):
                self.assertIs(has(told, word), plain_has(plain, word[::-1]), (plain, word))

    def test_a_machine_written_out(self):
        # A first letter is of no use; a last letter settles it.
        self.assertEqual(from_plain(LAST_IS_B), (
            "ab",
            [[1, 2, 1, 2], [1, 1, 1, 1], [2, 2, 2, 2]],
            [False, False, True],
            [[False, True], [False, False], [True, True]],
        ))
        # Which end the letters stand at is of no use: it counts the b's.
        self.assertEqual(from_plain(THIRDS), (
            "ab",
            [[0, 1, 1, 2], [1, 2, 2, 0], [2, 0, 0, 1]],
            [False, False, True],
            [[False, False], [False, True], [True, False]],
        ))

    def test_all_words_and_none(self):
        for letters in ["a", "ab", "amz"]:
            for truth in [True, False]:
                for states in [1, 2, 3]:
                    moves = [[(state + 1) % states] * len(letters) for state in range(states)]
                    self.assertEqual(from_plain((letters, moves, [truth] * states)), one_state(letters, truth))

    def test_states_twice(self):
        # The states 1 and 2 are alike, and of the last one 2 is never come by.
        self.assertEqual(from_plain(("ab", [[0, 2], [0, 1], [0, 1]], [False, True, True])), from_plain(LAST_IS_B))
        self.assertEqual(from_plain(("ab", [[0, 1], [0, 1], [2, 0]], [False, True, True])), from_plain(LAST_IS_B))

    def test_all_other_words(self):
        for plain in many_plain():
            letters, moves, ends = plain
            self.assertEqual(others(from_plain(plain)), from_plain((letters, moves, [not end for end in ends])))

    def test_put_together(self):
        machine = both(from_plain(LAST_IS_B), mirrored(from_plain(LAST_IS_B)))
        had = [word for word in words_up_to("ab", 5) if has(machine, word)]
        self.assertEqual(had, [word for word in words_up_to("ab", 5) if word[:1] == word[-1:] == "b"])

    def test_never_too_many_states(self):
        most = max(len(from_plain(made_plain("abc", 3, seed))[1]) for seed in range(400))
        self.assertLessEqual(most, 24)
        self.assertGreater(most, 12)


class TestRefusals(unittest.TestCase):
    def refused(self, plain, what):
        for word in ["", "ab", "c", "a" * 61, None]:
            with self.assertRaises(BadPlain, msg=what):
                plain_has(plain, word)
        with self.assertRaises(BadPlain, msg=what):
            from_plain(plain)

    def test_one_fault(self):
        plain_has(THIRDS, "")
        from_plain(THIRDS)
        for what, plain in bad_plain():
            before = copy.deepcopy(plain)
            self.refused(plain, what)
            self.assertEqual(plain, before)

    def test_any_value_for_a_plain_machine(self):
        for value in odd_values():
            # A plain machine is among them.
            if value.__class__ is not tuple or len(value) != 3:
                self.refused(value, value.__class__.__name__)

    def test_any_value_for_a_part(self):
        right = ("a", [[0]], [True])
        plain_has(right, "")
        for part in range(3):
            for value in odd_but(right[part]):
                if part != 0 or value.__class__ is not str or value != "b":
                    self.refused(replaced(right, part, value), f"{part} {value.__class__.__name__}")

    def test_any_value_for_a_row_or_an_item(self):
        for value in odd_but([0]):
            self.refused(("a", [value], [True]), "row " + value.__class__.__name__)
        for value in odd_but(0):
            self.refused(("a", [[value]], [True]), "state " + value.__class__.__name__)
        for value in odd_values():
            if value.__class__ is not bool:
                self.refused(("a", [[0]], [value]), "end " + value.__class__.__name__)

    def test_what_is_just_within(self):
        for letters, states in itertools.product(["a", "z", "az", "xyz"], [1, 2, 3]):
            plain = (letters, [[states - 1] * len(letters) for state in range(states)], [True] * states)
            self.assertIs(plain_has(plain, letters), True)
            self.assertEqual(from_plain(plain), one_state(letters, True))

    def test_texts_that_are_no_words(self):
        for word in ["c", "A", "`", " ", "ca", "ac", "aca", "ab\n", "~", "a" * 59 + "c", "a" * 61, "b" * 1000]:
            with self.assertRaises(BadWord):
                plain_has(THIRDS, word)
        for word in ["b", "y", "amyza"]:
            with self.assertRaises(BadWord):
                plain_has(made_plain("amz", 3, 1), word)

    def test_any_value_for_a_word(self):
        for value in odd_values():
            if value.__class__ is not str:
                with self.assertRaises(BadWord, msg=value.__class__.__name__):
                    plain_has(THIRDS, value)
        for value in [["a", "b"], ("a",), [], {"a": 1}, b"ab"]:
            with self.assertRaises(BadWord):
                plain_has(THIRDS, value)


class TestNothingIsChangedOrKept(unittest.TestCase):
    def test_what_is_handed_in_stays(self):
        for plain in many_plain():
            before = copy.deepcopy(plain)
            plain_has(plain, plain[0] * 3)
            from_plain(plain)
            self.assertEqual(plain, before)

    def test_what_is_told_is_new(self):
        for plain in [LAST_IS_B, THIRDS, ("a", [[0]], [True]), ("abc", [[0, 0, 0]], [False])]:
            told, again = from_plain(plain), from_plain(plain)
            places = [id(items) for items in [*lists_in(told), *lists_in(again), *lists_in(plain)]]
            self.assertEqual(len(places), len(set(places)))
            before, kept = copy.deepcopy(plain), copy.deepcopy(again)
            for items in list(lists_in(told)):
                items.clear()
            self.assertEqual(plain, before)
            self.assertEqual(again, kept)
            self.assertEqual(from_plain(plain), kept)

    def test_changed_in_place_and_handed_in_again(self):
        plain = copy.deepcopy(THIRDS)
        told = from_plain(plain)
        kept = copy.deepcopy(told)
        self.assertIs(plain_has(plain, "bb"), True)
        plain[1][1][1] = 0
        self.assertIs(plain_has(plain, "bb"), False)
        self.assertEqual(from_plain(plain), one_state("ab", False))
        plain[2][0] = True
        self.assertIs(plain_has(plain, "bb"), True)
        self.assertEqual(from_plain(plain), from_plain(copy.deepcopy(plain)))
        self.assertEqual(told, kept)
        plain[2].append(True)
        self.refused_now(plain)

    def refused_now(self, plain):
        with self.assertRaises(BadPlain):
            plain_has(plain, "")
        with self.assertRaises(BadPlain):
            from_plain(plain)


if __name__ == "__main__":
    unittest.main()
