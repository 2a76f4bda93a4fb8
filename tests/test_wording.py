"""Promise 3.1, and 0.1 to 0.3 as far as they speak of boxword/wording.py."""

import copy
import itertools
import unittest

import samples
from boxword.errors import BadMachine
from boxword.joining import joined, turned
from boxword.machines import takes
from boxword.wording import least_word


def unlike_the_last(kept, length):
    """Takes the words of that many letters or more, of which the first ones are unlike the last few ahead of them."""
    machine = []
    for at in range(length):
        boxes = min(at, kept)
        wider = min(at + 1, kept) if at + 1 < length else 0
        held = tuple(range(boxes + 1))
        machine.append((False, boxes, [(length + 1, ())] * boxes + [(at + 1, held[len(held) - wider:])]))
    return machine + [(True, 0, [(length, ())]), (False, 0, [(length + 1, ())])]


def least_by_words(machine, length):
    """The least word of at most that many letters, by asking for them all."""
    for size in range(length + 1):
        for word in itertools.product(range(size), repeat=size):
            if takes(machine, list(word)):
                return list(word)
    return None


class TestLeastWord(unittest.TestCase):
    def test_no_word(self):
        self.assertIsNone(least_word(samples.nothing()))
        machine = samples.two_back()
        self.assertIsNone(least_word(joined("odd", machine, machine)))
        self.assertIsNone(least_word([(False, boxes, moves) for good, boxes, moves in samples.keeper(0, 6)]))

    def test_the_empty_word(self):
        self.assertEqual(least_word(samples.everything()), [])
        self.assertEqual(least_word(turned(samples.two_back())), [])
        self.assertEqual(least_word(samples.ring(0, 400)), [])

    def test_one_letter_come_again(self):
        self.assertEqual(least_word(samples.first_again()), [0, 0])
        self.assertEqual(least_word(samples.neighbours()), [0, 0])
        self.assertEqual(least_word(samples.two_back()), [0, 0, 0])
        self.assertEqual(least_word(samples.ring(1, 3)), [0])
        self.assertEqual(least_word(samples.ring(399, 1)), [0] * 399)

    def test_letters_that_must_all_be_unlike(self):
        for boxes in range(7):
            self.assertEqual(least_word(samples.keeper(0, boxes)), list(range(boxes)))
        self.assertEqual(least_word(samples.keeper(2, 2)), [0, 0, 0, 1])
        self.assertEqual(least_word(unlike_the_last(6, 7)), [0, 1, 2, 3, 4, 5, 6])

    def test_a_letter_that_is_in_no_box_any_more_comes_again(self):
        self.assertEqual(least_word(unlike_the_last(1, 5)), [0, 1, 0, 1, 0])
        self.assertEqual(least_word(unlike_the_last(2, 7)), [0, 1, 2, 0, 1, 2, 0])
        self.assertEqual(least_word(unlike_the_last(6, 16)), [0, 1, 2, 3, 4, 5, 6, 0, 1, 2, 3, 4, 5, 6, 0, 1])

    def test_the_less_letter_be_it_in_a_box_or_not(self):
        # Keeps the second letter, 1, alone; then 0 is in no box.
        ahead = [(False, 0, [(1, (0,))]), (False, 1, [(4, ()), (2, (1,))])]
        behind = [(True, 0, [(3, ())]), (False, 0, [(4, ())])]
        self.assertEqual(least_word(ahead + [(False, 1, [(3, ()), (3, ())])] + behind), [0, 1, 0])
        self.assertEqual(least_word(ahead + [(False, 1, [(3, ()), (4, ())])] + behind), [0, 1, 1])
        self.assertEqual(least_word(ahead + [(False, 1, [(4, ()), (3, ())])] + behind), [0, 1, 0])

    def test_the_order_of_boxes_is_not_the_order_of_letters(self):
        # The boxes have 1 and 0; either of them leads on.
        machine = [
            (False, 0, [(1, (0,))]),
            (False, 1, [(4, ()), (2, (1, 0))]),
            (False, 2, [(3, ()), (3, ()), (4, ())]),
            (True, 0, [(3, ())]),
            (False, 0, [(4, ())]),
        ]
        self.assertEqual(least_word(machine), [0, 1, 0])
        machine[2] = (False, 2, [(3, ()), (4, ()), (4, ())])
        self.assertEqual(least_word(machine), [0, 1, 1])
        machine[2] = (False, 2, [(4, ()), (4, ()), (3, ())])
        self.assertEqual(least_word(machine), [0, 1, 2])

    def test_a_shorter_word_is_less_than_one_of_lesser_letters(self):
        machine = [
            (False, 0, [(1, (0,))]),
            (False, 1, [(2, ()), (3, ())]),
            (False, 0, [(3, ())]),
            (True, 0, [(3, ())]),
        ]
        self.assertEqual(least_word(machine), [0, 1])

    def test_good_states_that_no_word_comes_to(self):
        lost = [(True, 0, [(0, ())]), (True, 1, [(1, ()), (2, (0,))])]
        self.assertIsNone(least_word(samples.nothing() + lost))
        machine = samples.first_again() + [(True, 0, [(0, ())]), (True, 1, [(1, (0,)), (2, (1,))])]
        self.assertEqual(least_word(machine), [0, 0])

    def test_against_all_words_of_a_few_letters(self):
        found = {}
        for seed in range(300):
            machine = samples.mixed(seed, 2 + seed % 9, seed % 5)
            machine = [(good and seed % 3 == at % 4, boxes, moves) for at, (good, boxes, moves) in enumerate(machine)]
            word = least_word(machine)
            due = least_by_words(machine, 4)
            if word is not None and len(word) > 4:
                self.assertIsNone(due)
                self.assertIs(takes(machine, word), True)
            else:
                self.assertEqual(word, due)
            found[repr(word)] = True
        self.assertGreater(len(found), 6)

    def test_machines_that_take_the_same_words_have_the_same(self):
        for machine, is_taken in samples.known():
            for seed in range(10):
                self.assertEqual(least_word(samples.otherwise(machine, seed)), least_word(machine))

    def test_letters_are_whole_numbers_in_a_list(self):
        word = least_word(samples.keeper(0, 3))
        self.assertIs(type(word), list)
        self.assertEqual([type(letter) for letter in word], [int, int, int])


class TestRefusals(unittest.TestCase):
    def test_what_is_no_machine(self):
        for why, machine in samples.bad_machines():
            with self.subTest(why), self.assertRaises(BadMachine):
                least_word(machine)


class TestNothingIsChangedOrKept(unittest.TestCase):
    def test_what_is_handed_in(self):
        things = [machine for machine, is_taken in samples.known()]
        things += [machine for why, machine in samples.bad_machines()]
        for machine in things:
            before = copy.deepcopy(machine)
            try:
                least_word(machine)
            except BadMachine:
                pass
            self.assertEqual(machine, before)

    def test_a_told_word_is_a_new_one(self):
        machine = samples.keeper(0, 3)
        least_word(machine).append(7)
        self.assertEqual(least_word(machine), [0, 1, 2])
        least_word(samples.everything()).append(7)
        self.assertEqual(least_word(samples.everything()), [])

    def test_a_machine_that_was_changed_is_asked_anew(self):
        machine = samples.nothing()
        self.assertIsNone(least_word(machine))
        machine[0] = (True, 0, [(0, ())])
        self.assertEqual(least_word(machine), [])


if __name__ == "__main__":
    unittest.main()
