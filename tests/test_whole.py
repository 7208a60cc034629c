"""Points 1, 2 and 4 over the whole program: every door at once."""

import copy
import inspect
import unittest

from bothends import counting, judging, machines, making, plain, telling
from bothends import least as least_file
from bothends.answers import Alike, Apart, Empty, First, Same, Told
from bothends.errors import (
    BadLength, BadLetters, BadMachine, BadNumber, BadPlain, BadWord, EndsError, NotHad, TooMany, Unlike,
)
from bothends.least import least
from tests.helpers import (
    ENDS_MEET, EVERY_FOURTH, FIRST_A_LAST_B, SAMPLES, as_told, bad_parts, looped, made_machine, odd_values, one_state,
    reads, ring, words_up_to,
)

# As the document's interface lists them.
DOORS = [
    (machines, "has", ["machine", "word"]),
    (machines, "behind", ["machine", "left", "right"]),
    (least_file, "least", ["machine"]),
    (judging, "compared", ["one", "other"]),
    (judging, "first_word", ["machine"]),
    (making, "both", ["one", "other"]),
    (making, "either", ["one", "other"]),
    (making, "without", ["one", "other"]),
    (making, "others", ["machine"]),
    (making, "mirrored", ["machine"]),
    (making, "inner", ["machine", "left", "right"]),
    (making, "wrapped", ["machine", "first", "last"]),
    (making, "own_turnings", ["letters"]),
    (counting, "how_many", ["machine", "long"]),
    (counting, "word_by", ["machine", "long", "number"]),
    (counting, "number_of", ["machine", "word"]),
    (plain, "plain_has", ["plain", "word"]),
    (plain, "from_plain", ["plain"]),
    (telling, "told_apart", ["machine", "one", "other", "long"]),
    (telling, "kinds", ["machine", "many", "long"]),
]
SHOWS = [
    (Alike, ["one", "other"]), (Apart, ["one", "other"]), (First, ["machine"]), (Empty, ["machine"]),
    (Told, ["machine", "one", "other", "long"]), (Same, ["machine", "one", "other", "long"]),
]
PLAIN = ("ab", [[0, 1], [1, 2], [2, 0]], [False, False, True])


def door(name):
    """The function of this name."""
    return [getattr(file, name) for file, listed, arguments in DOORS if listed == name][0]


def machine_calls(machine):
    """Calls of every door that takes a machine: each a name and what is handed in."""
    letters = machine[0]
    other = one_state(letters, True)
    a, z = letters[0], letters[-1]
    calls = [("least", [machine]), ("first_word", [machine]), ("others", [machine]), ("mirrored", [machine])]
    for word in ["", a, a + z, letters * 3, z * 60]:
        calls += [("has", [machine, word]), ("number_of", [machine, word])]
    for text in ["", a, letters]:
        calls += [(name, [machine, text, z * len(text)]) for name in ["behind", "inner"]]
        calls += [("told_apart", [machine, text, z * len(text), long]) for long in [len(text), 5, 12]]
    for name in ["compared", "both", "either", "without"]:
        calls += [(name, [machine, other]), (name, [other, machine]), (name, [machine, machine])]
        calls += [(name, [machine, copy.deepcopy(machine)])]
    for long in [0, 1, 4, 5, 60]:
        calls += [("how_many", [machine, long]), ("word_by", [machine, long, 0])]
    calls += [("wrapped", [machine, a, z]), ("wrapped", [machine, a, a])]
    calls += [("kinds", [machine, many, long]) for many, long in [(0, 0), (1, 3), (2, 2), (2, 6)]]
    return calls


def all_calls():
    """Calls of every door that tell something or are refused for what the machine has."""
    calls = []
    for machine in SAMPLES + [made_machine("ab", 5, 1), ring(40), one_state("abc", False)]:
        calls += machine_calls(copy.deepcopy(machine))
    calls += [("own_turnings", [letters]) for letters in ["a", "ab", "amz"]]
    calls += [("from_plain", [copy.deepcopy(PLAIN)]), ("from_plain", [("a", [[0]], [True])])]
    calls += [("plain_has", [copy.deepcopy(PLAIN), word]) for word in ["", "ab", "bb", "b" * 60]]
    return calls


def refused_calls():
    """Calls that are refused for what is handed in, with the refusal: of two that are wrong the one told first."""
    bad = ["ab", [[0, 0, 0, 0]], [True], [[True, True]]]
    bad_item = ("ab", [[0, 0, 0, True]], [True], [[True, True]])
    bad_plain = ("ab", [[0, 1], [1, 3], [2, 0]], [False, False, True])
    m, e = ENDS_MEET, EVERY_FOURTH
    yield from [("has", [bad, ["x"]], BadMachine), ("has", [m, ["a"]], BadWord), ("has", [m, "a" * 61], BadWord)]
    for name in ["behind", "inner"]:
        yield from [(name, [bad_item, [], "a"], BadMachine), (name, [m, ["a"], "a"], BadWord)]
        yield from [(name, [m, "a", ["a"]], BadWord), (name, [m, "a", "ab"], BadWord)]
    for name in ["least", "first_word", "others", "mirrored"]:
        yield from [(name, [bad], BadMachine), (name, [bad_item], BadMachine)]
    for name in ["compared", "both", "either", "without"]:
        yield from [(name, [bad, e], BadMachine), (name, [e, bad_item], BadMachine), (name, [m, e], Unlike)]
        if name != "compared":
            yield (name, [ring(40), ring(39)], TooMany)
            yield (name, [looped("ab", 40, 0, [3]), ring(39)], Unlike)
    yield from [("wrapped", [bad, [], "a"], BadMachine), ("wrapped", [ring(40), ["a"], "a"], BadWord)]
    yield from [("wrapped", [ring(40), "a", "aa"], BadWord), ("wrapped", [ring(40), "a", "a"], TooMany)]
    yield from [("own_turnings", [["a"]], BadLetters), ("own_turnings", ["ba"], BadLetters)]
    yield from [("how_many", [bad, [3]], BadMachine), ("how_many", [m, [3]], BadLength)]
    yield from [("how_many", [m, True], BadLength), ("how_many", [m, 61], BadLength)]
    yield from [("word_by", [bad_item, [], []], BadMachine), ("word_by", [m, [], []], BadLength)]
    yield from [("word_by", [m, 4, []], BadNumber), ("word_by", [m, 4, False], BadNumber)]
    yield from [("number_of", [bad, []], BadMachine), ("number_of", [m, ["a"]], BadWord)]
    yield ("number_of", [m, "ab"], NotHad)
    yield from [("plain_has", [list(PLAIN), ["x"]], BadPlain), ("plain_has", [bad_plain, "c"], BadPlain)]
    yield from [("plain_has", [PLAIN, ["a"]], BadWord), ("plain_has", [PLAIN, "a" * 61], BadWord)]
    yield from [("from_plain", [bad_plain], BadPlain), ("from_plain", [m], BadPlain)]
    yield from [("told_apart", [bad, [], [], []], BadMachine), ("told_apart", [m, [], "a", []], BadWord)]
    yield from [("told_apart", [m, "a", "aa", []], BadWord), ("told_apart", [m, "a", "b", []], BadLength)]
    yield from [("told_apart", [m, "a", "b", 0], BadLength), ("told_apart", [m, "a", "b", True], BadLength)]
    yield from [("kinds", [bad, [], []], BadMachine), ("kinds", [m, [], []], BadLength)]
    yield from [("kinds", [m, 3, [3]], BadLength), ("kinds", [m, 12, 11], BadLength), ("kinds", [m, 3, 12], TooMany)]


def outcome(name, handed):
    """What is told, or the class of the refusal."""
    try:
        return as_told(door(name)(*handed))
    except EndsError as error:
        return error.__class__


def lists_within(value):
    """All lists within what is handed in or told, as a field of an answer too."""
    if value.__class__.__module__ == "bothends.answers":
        value = list(vars(value).values())
        return [items for item in value for items in lists_within(item)]
    if isinstance(value, (list, tuple)):
        within = [items for item in value for items in lists_within(item)]
        return within + [value] if isinstance(value, list) else within
    return []


def changed_in_place(machine):
    """Change the machine in one place after the other, and go on after each change."""
    letters, moves, ends, middles = machine
    for state in range(len(moves)):
        ends[state] = not ends[state]
        yield
        middles[state][-1] = not middles[state][-1]
        yield
        moves[state][-1] = (moves[state][-1] + 1) % len(moves)
        yield
        moves[state] = [len(moves) - 1] * len(letters) * len(letters)
        yield


class TestInterface(unittest.TestCase):
    def test_names_and_arguments(self):
        for file, name, arguments in DOORS:
            self.assertEqual(list(inspect.signature(getattr(file, name)).parameters), arguments, name)
        for kind, arguments in SHOWS:
            self.assertEqual(list(inspect.signature(vars(kind)["shows"]).parameters), ["self"] + arguments)

    def test_arguments_by_name(self):
        for name, handed in all_calls():
            arguments = [listed for file, door_name, listed in DOORS if door_name == name][0]
            due = outcome(name, handed)
            if due.__class__ is not type:
                self.assertEqual(as_told(door(name)(**dict(zip(arguments, handed)))), due, name)

    def test_every_door_is_called_here(self):
        names = {name for file, name, arguments in DOORS}
        self.assertEqual({name for name, handed in all_calls()}, names)
        self.assertEqual({name for name, handed, refusal in refused_calls()}, names)


class TestRefusals(unittest.TestCase):
    def test_each_as_its_own_class(self):
        for name, handed, refusal in refused_calls():
            with self.assertRaises(EndsError) as caught:
                door(name)(*handed)
            self.assertIs(caught.exception.__class__, refusal, (name, refusal))

    def test_each_of_all_refusals(self):
        kinds = {BadLength, BadLetters, BadMachine, BadNumber, BadPlain, BadWord, NotHad, TooMany, Unlike}
        self.assertEqual({refusal for name, handed, refusal in refused_calls()}, kinds)

    def test_one_bad_part_at_every_door(self):
        for what, machine in bad_parts(FIRST_A_LAST_B):
            for name, handed in machine_calls(FIRST_A_LAST_B):
                places = [at for at, item in enumerate(handed) if item is FIRST_A_LAST_B]
                for place in places:
                    wrong = list(handed)
                    wrong[place] = machine
                    self.assertIs(outcome(name, wrong), BadMachine, (name, what))

    def test_any_value_at_every_door(self):
        for value in odd_values():
            for name, handed in machine_calls(FIRST_A_LAST_B):
                self.assertIs(outcome(name, [value] + handed[1:]), BadMachine, (name, value.__class__))

    def test_any_values_for_all_at_once(self):
        for value in odd_values():
            for file, name, arguments in DOORS:
                if name in ["own_turnings", "plain_has", "from_plain"]:
                    continue
                self.assertIs(outcome(name, [value] * len(arguments)), BadMachine, (name, value.__class__))


class TestNothingIsChanged(unittest.TestCase):
    def test_by_calls(self):
        for name, handed in all_calls():
            before = copy.deepcopy(handed)
            outcome(name, handed)
            self.assertEqual(handed, before, name)

    def test_by_refused_calls(self):
        for name, handed, refusal in refused_calls():
            before = copy.deepcopy(handed)
            self.assertIs(outcome(name, handed), refusal)
            self.assertEqual(handed, before, name)

    def test_by_answers(self):
        for name, handed in all_calls():
            if name in ["compared", "first_word", "told_apart"]:
                told = door(name)(*handed)
                before, fields = copy.deepcopy(handed), copy.deepcopy(vars(told))
                self.assertIs(told.shows(*handed), True)
                self.assertEqual(handed, before, name)
                self.assertEqual(vars(told), fields, name)


class TestWhatIsToldIsNew(unittest.TestCase):
    def told_calls(self):
        """Calls that are not refused."""
        return [(name, handed) for name, handed in all_calls() if outcome(name, handed).__class__ is not type]

    def test_no_list_twice(self):
        lists = 0
        for name, handed in self.told_calls():
            told, again = door(name)(*handed), door(name)(*handed)
            fresh = [id(items) for items in lists_within(told) + lists_within(again)]
            self.assertEqual(len(fresh), len(set(fresh)), name)
            self.assertEqual(set(fresh) & {id(items) for items in lists_within(handed)}, set(), name)
            lists += len(fresh)
        self.assertGreater(lists, 1000)

    def test_what_is_told_may_be_changed(self):
        for name, handed in self.told_calls():
            before, told, again = copy.deepcopy(handed), door(name)(*handed), door(name)(*handed)
            kept = copy.deepcopy(as_told(again))
            for items in lists_within(told):
                items.append(items[0] if items else None)
                items.reverse()
            self.assertEqual(handed, before, name)
            self.assertEqual(as_told(again), kept, name)
            self.assertEqual(outcome(name, handed), kept, name)

    def test_what_is_handed_in_may_be_changed_behind(self):
        for name, handed in self.told_calls():
            # The calls share their machines, so copies are handed in.
            handed = copy.deepcopy(handed)
            told = door(name)(*handed)
            kept = copy.deepcopy(as_told(told))
            for items in lists_within(handed):
                items.clear()
            self.assertEqual(as_told(told), kept, name)


class TestNothingIsKept(unittest.TestCase):
    def test_a_machine_changed_in_place_and_handed_in_again(self):
        for machine in [EVERY_FOURTH, ENDS_MEET, FIRST_A_LAST_B, made_machine("abc", 3, 2)]:
            machine = copy.deepcopy(machine)
            calls = machine_calls(machine)
            seen = [copy.deepcopy(outcome(name, handed)) for name, handed in calls]
            changes = 0
            for change in changed_in_place(machine):
                for at, (name, handed) in enumerate(calls):
                    told = outcome(name, handed)
                    self.assertEqual(told, outcome(name, copy.deepcopy(handed)), name)
                    changes += told != seen[at]
                for word in words_up_to(machine[0], 3):
                    self.assertIs(machines.has(machine, word), reads(machine, word))
            self.assertGreater(changes, 50)

    def test_a_machine_changed_to_none(self):
        for part, value in [(1, [0, 0]), (2, True), (3, [True, True])]:
            machine = copy.deepcopy(FIRST_A_LAST_B)
            calls = machine_calls(machine)
            for name, handed in calls:
                outcome(name, handed)
            machine[part].append(value)
            for name, handed in calls:
                self.assertIs(outcome(name, handed), BadMachine, name)
            machine[part].pop()
            for name, handed in calls:
                self.assertIsNot(outcome(name, handed), BadMachine, name)

    def test_answers_asked_of_a_changed_machine(self):
        machine = copy.deepcopy(FIRST_A_LAST_B)
        alike, first = judging.compared(machine, FIRST_A_LAST_B), judging.first_word(machine)
        told, same = telling.told_apart(machine, "a", "b", 2), telling.told_apart(machine, "aa", "ab", 3)
        apart = judging.compared(machine, one_state("ab", True))
        self.assertEqual([as_told(apart), as_told(told)], [("Apart", {"word": ""}), ("Told", {"ending": "b"})])
        machine[3][0][0] = False
        self.assertEqual([alike.shows(machine, FIRST_A_LAST_B), first.shows(machine)], [False, False])
        machine[2][1] = False
        self.assertIs(told.shows(machine, "a", "b", 2), False)
        self.assertIs(same.shows(machine, "aa", "ab", 3), True)
        machine[3][1][0] = False
        self.assertIs(same.shows(machine, "aa", "ab", 3), False)
        self.assertIs(apart.shows(machine, one_state("ab", True)), True)
        machine[2][0] = True
        self.assertIs(apart.shows(machine, one_state("ab", True)), False)
        machine[1][0][:] = [2, 2, 2, 2]
        machine[2][0] = False
        empty = judging.first_word(machine)
        self.assertEqual((empty.__class__, empty.shows(machine)), (Empty, True))
        machine[3][2][1] = True
        self.assertIs(empty.shows(machine), False)

    def test_answers_by_their_fields_as_they_stand_then(self):
        alike = judging.compared(ring(3), ring(3))
        alike.pairs.pop()
        self.assertIs(alike.shows(ring(3), ring(3)), False)
        self.assertIs(judging.compared(ring(3), ring(3)).shows(ring(3), ring(3)), True)
        empty = judging.first_word(looped("ab", 3, 0, []))
        empty.states.remove(2)
        self.assertIs(empty.shows(looped("ab", 3, 0, [])), False)
        first = judging.first_word(ENDS_MEET)
        first.word = "ab"
        self.assertIs(first.shows(ENDS_MEET), False)


class TestMachinesToldAreTheLeast(unittest.TestCase):
    def test_at_every_door(self):
        names = []
        for name, handed in all_calls():
            told = outcome(name, handed)
            if isinstance(told, tuple) and len(told) == 4:
                self.assertEqual(least(told), told, name)
                names.append(name)
        self.assertEqual(set(names), {
            "least", "both", "either", "without", "others", "mirrored", "inner", "wrapped", "own_turnings",
            "from_plain",
        })


if __name__ == "__main__":
    unittest.main()
