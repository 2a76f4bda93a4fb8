"""Promises 0.1 to 0.3 and the interface, over the whole program."""

import copy
import importlib
import inspect
import unittest

import samples
from boxword.counting import called, how_many
from boxword.errors import BadMachine, BadText, BadWord, BoxError, TooMany
from boxword.joining import joined, turned
from boxword.likeness import shows_alike, told
from boxword.machines import gone, look_machine, reached, takes
from boxword.sparing import least
from boxword.texts import read, written
from boxword.watching import Watcher
from boxword.wording import least_word

FAR = samples.FAR
JOINING = ("both", "either", "less", "odd")

INTERFACE = {
    "machines": {"look_machine": ["machine"], "gone": ["machine", "word"], "takes": ["machine", "word"],
                 "reached": ["machine"]},
    "joining": {"turned": ["machine"], "joined": ["word", "one", "other"]},
    "wording": {"least_word": ["machine"]},
    "likeness": {"told": ["one", "other"], "shows_alike": ["one", "other", "some"]},
    "sparing": {"least": ["machine"]},
    "counting": {"how_many": ["machine", "long"], "called": ["word"]},
    "watching": {"Watcher": ["machine"]},
    "texts": {"written": ["machine"], "read": ["text"]},
}

# Calls of all that are handed a machine, and of all that are handed two.
WITH_ONE = {
    "look_machine": look_machine,
    "gone": lambda machine: gone(machine, [1, -FAR, 1]),
    "takes": lambda machine: takes(machine, [1, -FAR, 1]),
    "reached": reached,
    "turned": turned,
    "least_word": least_word,
    "least": least,
    "how_many": lambda machine: how_many(machine, 4),
    "how_many of another length": lambda machine: how_many(machine, 31),
    "Watcher": lambda machine: watched(machine, [4, -FAR, 4, FAR]),
    "written": written,
}
WITH_TWO = {
    "both": lambda one, other: joined("both", one, other),
    "either": lambda one, other: joined("either", one, other),
    "less": lambda one, other: joined("less", one, other),
    "odd": lambda one, other: joined("odd", one, other),
    "told": told,
    "shows_alike": lambda one, other: shows_alike(one, other, [(0, 0, ()), (1, 1, ((0, 0),))]),
    "shows_alike by no list": lambda one, other: shows_alike(one, other, []),
}


def watched(machine, word):
    """All that a watcher tells of a word, at first and behind each letter."""
    watcher = Watcher(machine)
    seen = [(watcher.told(), watcher.kept())]
    for letter in word:
        seen.append((watcher.come(letter), watcher.kept()))
    return seen


def tellings(machine, word):
    return [telling for telling, kept in watched(machine, word)]


def some_machines():
    some = [machine for machine, is_taken in samples.known()]
    some += [samples.among(3), samples.keeper(0, 6), samples.picker(3, [(0, 1, 2), (1, 2, 0)])]
    return some + [samples.mixed(seed, 2 + seed % 7, seed % 5) for seed in range(30)]


def answer(call, *things):
    """What a call tells, or the name of its refusal."""
    try:
        return call(*things)
    except BoxError as error:
        return type(error).__name__


class TestTheInterface(unittest.TestCase):
    def test_names_and_arguments(self):
        for module, names in INTERFACE.items():
            held = importlib.import_module(f"boxword.{module}")
            for name, arguments in names.items():
                some = getattr(held, name)
                self.assertEqual(some.__module__, f"boxword.{module}")
                self.assertEqual(list(inspect.signature(some).parameters), arguments)

    def test_a_watcher(self):
        self.assertIs(type(Watcher), type)
        for name, arguments in (("told", ["self"]), ("come", ["self", "letter"]), ("kept", ["self"])):
            self.assertEqual(list(inspect.signature(getattr(Watcher, name)).parameters), arguments)

    def test_arguments_by_name(self):
        machine = samples.first_again()
        self.assertEqual(how_many(machine=machine, long=3), 2)
        self.assertEqual(called(word=[4, 4]), [0, 0])
        self.assertEqual(Watcher(machine=machine).come(letter=3), (False, "open"))
        self.assertEqual(read(text=written(machine=machine)), machine)


class TestWhatIsNoMachine(unittest.TestCase):
    def test_by_each_call(self):
        for why, machine in samples.bad_machines():
            for name, call in WITH_ONE.items():
                with self.subTest(f"{name}: {why}"), self.assertRaises(BadMachine):
                    call(machine)
            for name, call in WITH_TWO.items():
                for one, other in ((machine, samples.nothing()), (samples.nothing(), machine), (machine, machine)):
                    with self.subTest(f"{name}: {why}"), self.assertRaises(BadMachine):
                        call(one, other)

    def test_ahead_of_all_else(self):
        wide = samples.keeper(0, 6)
        self.assertRaises(TooMany, joined, "both", wide, samples.two_back())
        for why, machine in samples.bad_machines():
            self.assertRaises(BadMachine, how_many, machine, -1)
            self.assertRaises(BadMachine, shows_alike, machine, machine, [(FAR, -FAR, ((None, None),))])
            self.assertRaises(BadMachine, joined, "both", wide, machine)

    def test_but_of_other_words_to_join_by(self):
        for why, machine in samples.bad_machines():
            self.assertRaises(BadWord, joined, "neither", machine, machine)
            self.assertRaises(BadWord, joined, "", machine, samples.nothing())


class TestNothingIsChangedOrKept(unittest.TestCase):
    def machines(self):
        return some_machines() + [machine for why, machine in samples.bad_machines()]

    def test_what_is_handed_in(self):
        for machine in self.machines():
            before = copy.deepcopy(machine)
            for call in WITH_ONE.values():
                answer(call, machine)
                self.assertEqual(machine, before)
            for call in WITH_TWO.values():
                answer(call, machine, machine)
                self.assertEqual(machine, before)

    def test_two_that_are_handed_in(self):
        for one in (samples.first_again(), samples.keeper(0, 6), []):
            for other in (samples.two_back(), samples.first_again(), samples.ring(0, 401)):
                before = copy.deepcopy((one, other))
                for call in WITH_TWO.values():
                    answer(call, one, other)
                    self.assertEqual((one, other), before)

    def test_words_and_lists_of_triples(self):
        machine = samples.first_again()
        word = [3, 3, -FAR, 3]
        for call in (called, lambda some: gone(machine, some), lambda some: takes(machine, some),
                     lambda some: takes([], some)):
            answer(call, word)
            self.assertEqual(word, [3, 3, -FAR, 3])
        triples = told(machine, machine)[1]
        before = list(triples)
        self.assertIs(shows_alike(machine, machine, triples), True)
        self.assertIs(shows_alike(machine, turned(machine), triples), False)
        answer(shows_alike, machine, [], triples)
        self.assertEqual(triples, before)

    def test_lists_that_are_told_are_new_ones(self):
        for machine in some_machines():
            before = copy.deepcopy(machine)
            for call in (turned, least, lambda some: joined("odd", some, some), lambda some: read(written(some))):
                due = copy.deepcopy(answer(call, machine))
                if isinstance(due, list):
                    samples.spoil(call(machine))
                self.assertEqual(machine, before)
                self.assertEqual(answer(call, machine), due)

    def test_lists_that_are_told_do_not_change_with_what_was_handed_in(self):
        for call in (turned, least, lambda some: joined("both", some, some), reached, lambda some: told(some, some),
                     lambda some: watched(some, [1, 2, 1, 1]), lambda some: read(written(some))):
            machine = samples.first_again()
            some = call(machine)
            due = copy.deepcopy(some)
            samples.spoil(machine)
            self.assertEqual(some, due)

    def test_a_told_list_of_triples_and_a_told_word(self):
        machine = samples.first_again()
        due = told(machine, machine)
        told(machine, machine)[1].clear()
        self.assertEqual(told(machine, machine), due)
        told(machine, turned(machine))[1].append(FAR)
        self.assertEqual(told(machine, turned(machine)), ("unlike", []))


class TestWrittenAndReadAgain(unittest.TestCase):
    def test_the_same_in_all(self):
        for machine in some_machines():
            again = read(written(machine))
            self.assertIsNot(again, machine)
            self.assertEqual(again, machine)
            kind, triples = told(machine, again)
            self.assertEqual(kind, "alike")
            self.assertIs(shows_alike(machine, again, triples), True)
            self.assertEqual(least(again), least(machine))
            self.assertEqual(least_word(again), least_word(machine))
            for long in (0, 1, 2, 3, 10, 30):
                self.assertEqual(how_many(again, long), how_many(machine, long))
            for word in samples.words_of(4):
                self.assertEqual(watched(again, word), watched(machine, word))


class TestMachinesThatWereTold(unittest.TestCase):
    def look(self, machine, takes_it):
        """The machine can be watched, counted, written and read like any other."""
        self.assertIsNone(look_machine(machine))
        self.assertEqual(read(written(machine)), machine)
        for long in range(5):
            words = samples.words_of(long)
            self.assertEqual(how_many(machine, long), len([word for word in words if takes_it(word)]))
            for word in words:
                self.assertIs(watched(machine, word)[-1][0][0], takes_it(word))

    def test_least_ones(self):
        for machine in some_machines():
            small = least(machine)
            self.look(small, lambda word: takes(machine, word))
            for word in samples.words_of(4):
                self.assertEqual(tellings(small, word), tellings(machine, word))
            self.assertEqual(how_many(small, 30), how_many(machine, 30))

    def test_turned_ones(self):
        names = {"always": "never", "never": "always", "open": "open"}
        for machine in some_machines():
            self.look(turned(machine), lambda word: not takes(machine, word))
            for word in samples.words_of(4):
                due = [(not taken, names[name]) for taken, name in tellings(machine, word)]
                self.assertEqual(tellings(turned(machine), word), due)

    def test_joined_ones(self):
        due = {
            "both": lambda one, other: one and other,
            "either": lambda one, other: one or other,
            "less": lambda one, other: one and not other,
            "odd": lambda one, other: one != other,
        }
        some = [samples.first_again(), samples.neighbours(), samples.two_back(), samples.mixed(4, 4, 2)]
        for one in some:
            for other in some:
                for name in JOINING:
                    machine = joined(name, one, other)
                    self.look(machine, lambda word: due[name](takes(one, word), takes(other, word)))

    def test_a_joined_one_keeps_the_letters_of_both(self):
        one, other = samples.first_again(), samples.two_back()
        machine = joined("either", one, other)
        for word in samples.words_of(5):
            letters = [seen[1] for seen in watched(one, word)]
            more = [seen[1] for seen in watched(other, word)]
            due = [sorted(set(few + many)) for few, many in zip(letters, more)]
            self.assertEqual([seen[1] for seen in watched(machine, word)], due)

    def test_always_and_never_at_first_are_the_least_machines_of_one_state(self):
        for machine in some_machines():
            self.assertEqual(Watcher(machine).told()[1] == "always", least(machine) == samples.everything())
            self.assertEqual(Watcher(machine).told()[1] == "never", least(machine) == samples.nothing())
            self.assertEqual(Watcher(machine).told()[1] == "never", least_word(machine) is None)


class TestLettersOfAnyNames(unittest.TestCase):
    def test_only_which_are_alike_matters(self):
        names = [FAR, -1, 0, -FAR, 5]
        for machine in some_machines():
            for word in samples.words_of(5):
                other = [names[letter] for letter in word]
                self.assertEqual(called(other), word)
                self.assertEqual(tellings(machine, other), tellings(machine, word))
                self.assertIs(takes(machine, called(other)), takes(machine, other))

    def test_texts_have_no_other_signs(self):
        for machine in some_machines():
            self.assertLessEqual(set(written(machine)), set("yesno; 0123456789\n"))

    def test_refusals_have_a_name_of_their_own(self):
        self.assertEqual(answer(read, ""), "BadText")
        self.assertEqual(answer(how_many, samples.nothing(), FAR), "BadWord")
        self.assertEqual(answer(joined, "Both", samples.nothing(), samples.nothing()), "BadWord")
        self.assertEqual(answer(written, []), "BadMachine")
        self.assertFalse(issubclass(BadText, BadMachine) or issubclass(BadMachine, BadText))


if __name__ == "__main__":
    unittest.main()
