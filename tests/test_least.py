"""Points 1 and 4: the least machine."""

import copy
import itertools
import unittest

from bothends.errors import BadMachine
from bothends.least import least
from bothends.machines import has
from tests.helpers import (
    ENDS_MEET, EVERY_FOURTH, FIRST_A_LAST_B, SAMPLES, THREE_LETTERS, bad_parts, counted_otherwise, doubled, lists_in,
    made_machine, odd_values, ring, shuffled, words_of, words_up_to,
)


def first_come_by(machine):
    """The states as they are first come by: those behind one pair of letters, behind two pairs, and so on."""
    states, behind = [], [0]
    while len(states) < len(machine[1]) and behind:
        fresh = []
        for state in behind:
            if state not in states:
                states.append(state)
                fresh.append(state)
        behind = [goal for state in fresh for goal in machine[1][state]]
    return states


def parted_pairs(machine):
    """The pairs of states behind which not the same words are had: marked until no more are."""
    letters, moves, ends, middles = machine
    pairs = list(itertools.combinations(range(len(moves)), 2))
    marked = {
        (one, other) for one, other in pairs if ends[one] != ends[other] or middles[one] != middles[other]
    }
    while True:
        more = {
            (one, other) for one, other in pairs if (one, other) not in marked and any(
                (min(goals), max(goals)) in marked for goals in zip(moves[one], moves[other]))
        }
        if not more:
            return marked
        marked |= more


def fewest_states(machine):
    """How many states come by are alike to none that is come by ahead of them."""
    marked = parted_pairs(machine)
    kept = []
    for state in first_come_by(machine):
        if all((min(state, other), max(state, other)) in marked for other in kept):
            kept.append(state)
    return len(kept)


def made_machines():
    """Machines of one, two and three letters, with few states and with many."""
    for seed in range(60):
        yield made_machine(["a", "bz", "abc"][seed % 3], 1 + seed % 5, seed)
    for seed in range(12):
        yield made_machine(["a", "bz", "abc"][seed % 3], 40 - seed, 100 + seed)


class TestLeast(unittest.TestCase):
    def test_least_ones_stay_as_they_are(self):
        for machine in [EVERY_FOURTH, ENDS_MEET, ring(1), ring(2), ring(7)]:
            self.assertEqual(least(machine), machine)

    def test_states_counted_as_first_come_by(self):
        self.assertEqual(least(FIRST_A_LAST_B), (
            "ab",
            [[1, 2, 1, 1], [1, 1, 1, 1], [2, 2, 2, 2]],
            [False, False, True],
            [[True, False], [False, False], [True, True]],
        ))

    def test_each_state_in_turn(self):
        # From 0 on, 2 is come by ahead of 1; then 3 is come by from 2, and only then 4 from 1.
        machine = (
            "ab",
            [[2, 2, 1, 0], [4, 4, 4, 4], [3, 3, 3, 0], [0, 1, 2, 3], [4, 4, 4, 0]],
            [False, True, False, True, False],
            [[True, False], [False, False], [False, True], [True, True], [False, False]],
        )
        self.assertEqual(least(machine), (
            "ab",
            [[1, 1, 2, 0], [3, 3, 3, 0], [4, 4, 4, 4], [0, 2, 1, 3], [4, 4, 4, 0]],
            [False, False, True, True, False],
            [[True, False], [False, True], [False, False], [True, True], [False, False]],
        ))

    def test_alike_states_are_one(self):
        machine = ("a", [[1], [2], [1]], [True, False, True], [[False], [True], [False]])
        self.assertEqual(least(machine), ("a", [[1], [0]], [True, False], [[False], [True]]))

    def test_all_words_and_no_word(self):
        for truth in [True, False]:
            for letters in ["a", "ab", "abc"]:
                many = len(letters)
                for states in [1, 2, 40]:
                    moves = [[(state + 1) % states] * (many * many) for state in range(states)]
                    machine = (letters, moves, [truth] * states, [[truth] * many for state in range(states)])
                    self.assertEqual(least(machine), (letters, [[0] * (many * many)], [truth], [[truth] * many]))

    def test_states_parted_by_a_middle_alone(self):
        for middles in itertools.product([True, False], repeat=2):
            for others in itertools.product([True, False], repeat=2):
                machine = ("ab", [[1, 1, 1, 1], [1, 1, 1, 1]], [True, True], [list(middles), list(others)])
                self.assertEqual(len(least(machine)[1]), 1 if middles == others else 2)

    def test_states_parted_by_one_pair_alone(self):
        for at in range(9):
            moves = [[3] * 9 for state in range(4)]
            moves[0][0], moves[0][1] = 1, 2
            moves[1][at] = 0
            machine = ("abc", moves, [True, False, False, False], [[False] * 3 for state in range(4)])
            self.assertEqual(len(least(machine)[1]), 3)

    def test_states_never_come_by_are_left_out(self):
        machine = ("a", [[2], [1], [0]], [True, True, False], [[False], [True], [False]])
        self.assertEqual(least(machine), ("a", [[1], [0]], [True, False], [[False], [False]]))
        alone = ("a", [[0]] + [[0] for state in range(39)], [True] + [False] * 39, [[True]] + [[False]] * 39)
        self.assertEqual(least(alone), ("a", [[0]], [True], [[True]]))

    def test_the_letters_stay(self):
        for letters in ["a", "z", "bx", "amz"]:
            many = len(letters)
            machine = (letters, [[0] * (many * many)], [True], [[True] * many])
            self.assertEqual(least(machine), machine)

    def test_it_is_a_machine(self):
        for machine in SAMPLES + list(made_machines()):
            told = least(machine)
            self.assertIs(told.__class__, tuple)
            has(told, "")
            for row in told[1]:
                self.assertTrue(all(goal.__class__ is int for goal in row))

    def test_it_has_the_same_words(self):
        for machine in SAMPLES + list(made_machines()):
            told = least(machine)
            most = {1: 60, 2: 8, 3: 5}[len(machine[0])]
            for word in words_up_to(machine[0], most):
                self.assertIs(has(told, word), has(machine, word), word)

    def test_it_has_the_fewest_states(self):
        for machine in SAMPLES + list(made_machines()) + [doubled(made_machine("ab", 20, at), at) for at in range(5)]:
            self.assertEqual(len(least(machine)[1]), fewest_states(machine))

    def test_small_ones_have_as_many_states_as_there_are_remainders(self):
        # What is left to be had behind a left and a right text: as many states as such sets of words are needed.
        for seed in range(40):
            machine = made_machine("ab", 1 + seed % 4, seed)
            sets = {tuple(words_of(machine, 7, state)) for state in first_come_by(machine)}
            self.assertEqual(len(least(machine)[1]), len(sets))

    def test_its_states_are_counted_in_order(self):
        for machine in SAMPLES + list(made_machines()):
            told = least(machine)
            self.assertEqual(first_come_by(told), list(range(len(told[1]))))

    def test_the_least_of_a_least_one_is_the_same(self):
        for machine in SAMPLES + list(made_machines()):
            told = least(machine)
            self.assertEqual(least(told), told)

    def test_alike_machines_have_the_same(self):
        for at, machine in enumerate(SAMPLES + list(made_machines())):
            told = least(machine)
            self.assertEqual(least(shuffled(machine, at)), told)
            if len(machine[1]) <= 20:
                self.assertEqual(least(doubled(machine, at)), told)
                self.assertEqual(least(shuffled(doubled(machine, at), at)), told)

    def test_unlike_machines_have_unlike_ones(self):
        self.assertNotEqual(least(ring(39)), least(ring(40)))
        self.assertNotEqual(least(("a", [[0]], [True], [[True]])), least(("b", [[0]], [True], [[True]])))

    def test_forty_states_that_are_all_needed(self):
        # The states of a ring fall apart one after the other: no two at once.
        self.assertEqual(least(ring(40)), ring(40))
        self.assertEqual(least(counted_otherwise(ring(40), [0] + list(range(39, 0, -1)))), ring(40))
        self.assertEqual(least(shuffled(ring(40), 3)), ring(40))
        # The same with a middle in place of an end.
        letters, moves, ends, middles = ring(40)
        turned = (letters, moves, [False] * 40, [[end] for end in ends])
        self.assertEqual(least(turned), turned)

    def test_forty_states_that_stand_there_twice(self):
        self.assertEqual(least(doubled(ring(20), 1)), ring(20))
        self.assertEqual(least(shuffled(doubled(ring(20), 2), 2)), ring(20))
        ten = doubled(doubled(ring(10), 3), 3)
        self.assertEqual(least(ten), ring(10))

    def test_a_chain_of_forty_states(self):
        moves = [[min(state + 1, 39)] * 9 for state in range(40)]
        machine = ("abc", moves, [False] * 39 + [True], [[False] * 3 for state in range(40)])
        self.assertEqual(least(machine), machine)
        machine[3][39][2] = True
        self.assertEqual(least(machine), machine)


class TestLeastRefuses(unittest.TestCase):
    def test_what_is_no_machine(self):
        for what, machine in bad_parts(THREE_LETTERS):
            with self.subTest(what):
                with self.assertRaises(BadMachine):
                    least(machine)

    def test_any_value(self):
        for value in odd_values():
            with self.subTest(value.__class__.__name__):
                with self.assertRaises(BadMachine):
                    least(value)


class TestWhatIsToldIsNew(unittest.TestCase):
    def test_what_is_handed_in_stays(self):
        for machine in SAMPLES + list(made_machines()):
            before = copy.deepcopy(machine)
            least(machine)
            self.assertEqual(machine, before)

    def test_no_list_is_one_handed_in(self):
        for machine in SAMPLES + [ring(40), least(FIRST_A_LAST_B), least(THREE_LETTERS)]:
            handed = [id(items) for items in lists_in(machine)]
            for items in lists_in(least(machine)):
                self.assertNotIn(id(items), handed)

    def test_changing_one_list_changes_nothing_else(self):
        shared = [1, 1, 1, 1]
        truths = [True, False]
        alike_rows = ("ab", [shared, shared], [True, False], [truths, truths])
        for machine in [alike_rows, EVERY_FOURTH, ENDS_MEET, least(FIRST_A_LAST_B), THREE_LETTERS, ring(40)]:
            before = copy.deepcopy(machine)
            for at in range(len(list(lists_in(least(machine))))):
                told, again = least(machine), least(machine)
                plain = copy.deepcopy(again)
                changed = list(lists_in(told))[at]
                others = [items for items in lists_in(told) if items is not changed and not isinstance(items[0], list)]
                kept = copy.deepcopy(others)
                changed[0] = None
                changed.append(None)
                self.assertEqual(machine, before)
                self.assertEqual(again, plain)
                self.assertEqual(others, kept)
                self.assertEqual(least(machine), plain)

    def test_no_list_stands_in_two_places(self):
        shared = [1, 1, 1, 1]
        truths = [True, False]
        for machine in SAMPLES + [("ab", [shared, shared], [True, False], [truths, truths])]:
            places = [id(items) for items in lists_in(least(machine))]
            self.assertEqual(len(places), len(set(places)))

    def test_changing_what_was_handed_in_changes_nothing_told(self):
        machine = copy.deepcopy(ENDS_MEET)
        told = least(machine)
        for items in list(lists_in(machine)):
            items.clear()
        self.assertEqual(told, ENDS_MEET)


if __name__ == "__main__":
    unittest.main()
