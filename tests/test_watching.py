"""Promise 7.1, and 0.1 to 0.3 as far as they speak of boxword/watching.py."""

import copy
import itertools
import unittest

import samples
from boxword.errors import BadMachine
from boxword.joining import turned
from boxword.machines import gone, takes
from boxword.watching import Watcher

FAR = samples.FAR


def some_machines():
    some = [machine for machine, is_taken in samples.known()]
    some += [samples.among(3), samples.keeper(0, 6), samples.picker(2, [(0, 1)])]
    return some + [turned(machine) for machine in some]


def tellings(machine, word):
    watcher = Watcher(machine)
    return [watcher.told()] + [watcher.come(letter) for letter in word]


def due_telling(machine, word, further):
    """What is told behind a word, by asking for all words that go on from it by one of the further ones."""
    ends = [takes(machine, word + more) for more in further]
    return (ends[0], "open" if len(set(ends)) > 1 else "always" if ends[0] else "never")


def with_a_last_stay(machine):
    """The machine, but the last state is never left."""
    good, boxes, moves = machine[-1]
    return machine[:-1] + [(good, boxes, [(len(machine) - 1, tuple(range(boxes)))] * (boxes + 1))]


class TestAtFirst(unittest.TestCase):
    def test_a_first_state_that_is_good_and_one_that_is_not(self):
        self.assertEqual(Watcher(samples.first_again()).told(), (False, "open"))
        self.assertEqual(Watcher(turned(samples.first_again())).told(), (True, "open"))
        self.assertEqual(Watcher(samples.ring(0, 400)).told(), (True, "open"))

    def test_always_and_never(self):
        self.assertEqual(Watcher(samples.everything()).told(), (True, "always"))
        self.assertEqual(Watcher(samples.nothing()).told(), (False, "never"))
        for machine in (samples.two_back(), samples.keeper(0, 6), samples.mixed(3, 9, 4)):
            good = samples.good_all_over(machine)
            self.assertEqual(Watcher(good).told(), (True, "always"))
            self.assertEqual(Watcher(turned(good)).told(), (False, "never"))

    def test_nothing_is_kept(self):
        for machine in some_machines():
            self.assertEqual(Watcher(machine).kept(), [])

    def test_states_that_no_word_comes_to_change_nothing(self):
        lost = [(True, 0, [(0, ())]), (False, 1, [(1, ()), (2, (0,))])]
        self.assertEqual(Watcher(samples.nothing() + lost).told(), (False, "never"))
        self.assertEqual(Watcher(samples.everything() + lost).told(), (True, "always"))


class TestBehindLetters(unittest.TestCase):
    def test_letter_by_letter(self):
        self.assertEqual(tellings(samples.first_again(), [7, 3, 7, 7, 9]), [
            (False, "open"), (False, "open"), (False, "open"), (True, "open"), (True, "open"), (False, "open"),
        ])

    def test_always_behind_a_letter(self):
        self.assertEqual(tellings(samples.neighbours(), [4, 5, 4, 4, 6, 7]), [
            (False, "open"), (False, "open"), (False, "open"), (False, "open"),
            (True, "always"), (True, "always"), (True, "always"),
        ])
        self.assertEqual(tellings(samples.keeper(0, 2), [4, 4, 5, 4]), [
            (False, "open"), (False, "open"), (False, "open"), (True, "always"), (True, "always"),
        ])

    def test_never_behind_a_letter(self):
        self.assertEqual(tellings(turned(samples.neighbours()), [4, 5, 5, 6]), [
            (True, "open"), (True, "open"), (True, "open"), (False, "never"), (False, "never"),
        ])
        self.assertEqual(tellings(samples.picker(2, [(0, 1)]), [1, 2, 2]), [
            (False, "open"), (False, "open"), (False, "open"), (False, "never"),
        ])

    def test_taken_now_alone(self):
        machine = [(False, 0, [(1, ())]), (True, 0, [(2, ())]), (False, 0, [(2, ())])]
        self.assertEqual(tellings(machine, [5, 5, 5]), [
            (False, "open"), (True, "open"), (False, "never"), (False, "never"),
        ])

    def test_not_taken_now_alone(self):
        machine = [(True, 0, [(1, ())]), (False, 0, [(2, ())]), (True, 0, [(2, ())])]
        self.assertEqual(tellings(machine, [5, 5, 5]), [
            (True, "open"), (False, "open"), (True, "always"), (True, "always"),
        ])

    def test_a_change_by_the_move_of_one_box_alone(self):
        stays = (2, (0, 1))
        ahead = [(True, 0, [(1, (0,))]), (True, 1, [(1, (0,)), (2, (0, 1))])]
        for moves in ([(3, ()), stays, stays], [stays, (3, ()), stays], [stays, stays, (3, ())]):
            machine = ahead + [(True, 2, moves), (False, 0, [(3, ())])]
            self.assertEqual(tellings(machine, [4, 5]), [(True, "open")] * 3)
            self.assertEqual(tellings(turned(machine), [4, 5]), [(False, "open")] * 3)
        machine = ahead + [(True, 2, [stays] * 3), (False, 0, [(3, ())])]
        self.assertEqual(tellings(machine, [4, 5]), [(True, "always")] * 3)

    def test_a_change_that_is_far_off(self):
        machine = samples.ring(399, 1)
        self.assertEqual(tellings(machine, [1] * 400), [(False, "open")] * 399 + [(True, "always")] * 2)
        self.assertEqual(tellings(turned(machine), [1] * 400), [(True, "open")] * 399 + [(False, "never")] * 2)

    def test_against_takes(self):
        for machine in some_machines():
            for word in samples.words_of(5):
                seen = tellings(machine, word)
                self.assertEqual(len(seen), 6)
                for size, telling in enumerate(seen):
                    self.assertIs(telling[0], takes(machine, word[:size]))

    def test_against_all_longer_words_of_a_few_letters(self):
        # One of four letters is in none of two boxes, and from one of four states three letters come to any other.
        further = [list(more) for size in range(4) for more in itertools.product(range(4), repeat=size)]
        found = {}
        for seed in range(80):
            machine = samples.mixed(seed, 1 + seed % 4, seed % 3)
            if seed % 2:
                machine = with_a_last_stay(machine)
            for word in samples.words_of(3):
                for size, telling in enumerate(tellings(machine, word)):
                    self.assertEqual(telling, due_telling(machine, word[:size], further))
                    found[telling] = found.get(telling, 0) + 1
        self.assertEqual(len(found), 4)
        self.assertGreater(min(found.values()), 20)

    def test_come_and_told_tell_the_same(self):
        for machine in some_machines():
            watcher = Watcher(machine)
            self.assertEqual(watcher.told(), watcher.told())
            for letter in (3, 4, 3, 3, -1, 4, 5, 6, 7, 8, 3):
                telling = watcher.come(letter)
                self.assertEqual(watcher.told(), telling)
                self.assertEqual(watcher.told(), telling)

    def test_letters_below_0_and_of_15_figures(self):
        self.assertEqual(tellings(samples.two_back(), [FAR, -FAR, FAR, FAR, FAR, -1])[1:], [
            (False, "open"), (False, "open"), (True, "open"), (False, "open"), (True, "open"), (False, "open"),
        ])
        self.assertEqual(tellings(samples.neighbours(), [-FAR, FAR, -1, -1])[-1], (True, "always"))

    def test_a_long_word(self):
        watcher = Watcher(samples.first_again())
        for letter in range(5000):
            watcher.come(letter)
        self.assertEqual(watcher.told(), (False, "open"))
        self.assertEqual(watcher.come(0), (True, "open"))
        self.assertEqual(watcher.kept(), [0])

    def test_kinds(self):
        watcher = Watcher(samples.two_back())
        for telling in (watcher.told(), watcher.come(3), watcher.told()):
            self.assertIs(type(telling), tuple)
            self.assertEqual([type(some) for some in telling], [bool, str])
        self.assertIs(type(watcher.kept()), list)


class TestKept(unittest.TestCase):
    def test_rising(self):
        watcher = Watcher(samples.keeper(0, 6))
        seen = []
        for letter in (5, 3, 5, -2, 9, FAR, -FAR, 4):
            watcher.come(letter)
            seen.append(watcher.kept())
        self.assertEqual(seen, [
            [5], [3, 5], [3, 5], [-2, 3, 5], [-2, 3, 5, 9], [-2, 3, 5, 9, FAR], [-FAR, -2, 3, 5, 9, FAR],
            [-FAR, -2, 3, 5, 9, FAR],
        ])

    def test_as_numbers_not_as_texts(self):
        watcher = Watcher(samples.keeper(0, 4))
        for letter in (10, 9, -10, -9):
            watcher.come(letter)
        self.assertEqual(watcher.kept(), [-10, -9, 9, 10])

    def test_letters_that_leave_the_boxes(self):
        watcher = Watcher(samples.two_back())
        seen = []
        for letter in (7, 8, 7, 7, 7, 6):
            watcher.come(letter)
            seen.append(watcher.kept())
        self.assertEqual(seen, [[7], [7, 8], [7, 8], [7], [7], [6, 7]])
        watcher = Watcher(samples.neighbours())
        watcher.come(4)
        watcher.come(4)
        self.assertEqual(watcher.kept(), [])

    def test_against_gone(self):
        names = [3, -1, FAR, 0, -FAR]
        for machine in some_machines() + [samples.mixed(seed, 8, 5) for seed in range(20)]:
            for word in samples.words_of(4):
                watcher = Watcher(machine)
                came = [names[letter] for letter in word]
                for letter in came:
                    watcher.come(letter)
                self.assertEqual(watcher.kept(), sorted(gone(machine, came)[1]))

    def test_asking_changes_nothing(self):
        watcher = Watcher(samples.first_again())
        watcher.come(5)
        for time in range(3):
            self.assertEqual(watcher.kept(), [5])
            self.assertEqual(watcher.told(), (False, "open"))
        self.assertEqual(watcher.come(5), (True, "open"))


class TestRefusals(unittest.TestCase):
    def test_what_is_no_machine(self):
        for why, machine in samples.bad_machines():
            before = copy.deepcopy(machine)
            with self.subTest(why), self.assertRaises(BadMachine):
                Watcher(machine)
            self.assertEqual(machine, before)


class TestNothingIsChangedOrKept(unittest.TestCase):
    def test_what_is_handed_in(self):
        for machine in some_machines():
            before = copy.deepcopy(machine)
            watcher = Watcher(machine)
            for letter in (1, 2, 1, 1, 3, 4):
                watcher.come(letter)
                watcher.told()
                watcher.kept()
            self.assertEqual(machine, before)

    def test_two_watchers_of_one_machine(self):
        machine = samples.first_again()
        one, other = Watcher(machine), Watcher(machine)
        one.come(5)
        self.assertEqual((one.kept(), other.kept()), ([5], []))
        other.come(6)
        self.assertEqual((one.kept(), other.kept()), ([5], [6]))
        self.assertEqual(one.come(5), (True, "open"))
        self.assertEqual(other.told(), (False, "open"))
        self.assertEqual(other.come(5), (False, "open"))
        self.assertEqual(other.come(6), (True, "open"))
        self.assertEqual(one.told(), (True, "open"))

    def test_watchers_of_unlike_machines(self):
        one, other = Watcher(samples.nothing()), Watcher(samples.everything())
        self.assertEqual((one.told(), other.told()), ((False, "never"), (True, "always")))
        self.assertEqual((one.come(1), other.come(1)), ((False, "never"), (True, "always")))

    def test_a_machine_that_is_changed_behind_the_making(self):
        word = [7, 8, 7, 7, 7, 8, 7, 9]
        for size in range(len(word)):
            machine = samples.two_back()
            watcher = Watcher(machine)
            due = Watcher(samples.two_back())
            for at, letter in enumerate(word):
                if at == size:
                    samples.spoil(machine)
                self.assertEqual(watcher.told(), due.told())
                self.assertEqual(watcher.come(letter), due.come(letter))
                self.assertEqual(watcher.kept(), due.kept())

    def test_a_machine_that_is_emptied_or_whose_states_are_others(self):
        machine = samples.first_again()
        watcher = Watcher(machine)
        moves = [state[2] for state in machine]
        machine[0] = (True, 0, [(0, ())])
        machine.clear()
        self.assertEqual(watcher.told(), (False, "open"))
        for some in moves:
            some.clear()
        self.assertEqual([watcher.come(letter) for letter in (5, 6, 5)],
                         [(False, "open"), (False, "open"), (True, "open")])
        self.assertEqual(watcher.kept(), [5])

    def test_a_list_that_was_told_is_changed(self):
        watcher = Watcher(samples.two_back())
        watcher.kept().append(4)
        self.assertEqual(watcher.kept(), [])
        watcher.come(8)
        watcher.come(7)
        some = watcher.kept()
        some.clear()
        self.assertEqual(watcher.kept(), [7, 8])
        some = watcher.kept()
        some[0] = 3
        self.assertEqual(watcher.come(8), (True, "open"))
        self.assertEqual(watcher.kept(), [7, 8])
        self.assertEqual(some, [3, 8])


if __name__ == "__main__":
    unittest.main()
