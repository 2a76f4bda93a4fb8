"""Promises 1.1 and 1.2, and 0.1 to 0.3 as far as they speak of boxword/machines.py."""

import copy
import unittest

import samples
from boxword.errors import BadMachine
from boxword.machines import gone, look_machine, reached, takes

FAR = samples.FAR


class TestWhatAMachineIs(unittest.TestCase):
    def test_ordinary_machines(self):
        for machine, is_taken in samples.known():
            self.assertIsNone(look_machine(machine))

    def test_machines_of_any_form(self):
        for seed in range(200):
            self.assertIsNone(look_machine(samples.mixed(seed, 1 + seed % 9, seed % 7)))

    def test_one_state_and_400(self):
        self.assertIsNone(look_machine(samples.ring(0, 1)))
        self.assertIsNone(look_machine(samples.ring(0, 400)))
        with self.assertRaises(BadMachine):
            look_machine(samples.ring(0, 401))

    def test_no_box_and_six(self):
        self.assertIsNone(look_machine(samples.keeper(0, 0)))
        self.assertIsNone(look_machine(samples.keeper(0, 6)))
        with self.assertRaises(BadMachine):
            look_machine(samples.keeper(0, 7))

    def test_sources_in_any_order(self):
        look_machine(samples.with_two_boxes((2, (0, 1)), (2, (1, 0)), (2, (2, 0))))
        look_machine(samples.with_two_boxes((1, (1,)), (1, (0,)), (1, (2,))))
        look_machine(samples.with_two_boxes((0, ()), (0, ()), (2, (1, 2))))

    def test_boxes_in_state_0_are_refused_where_all_else_is_right(self):
        with self.assertRaises(BadMachine):
            look_machine([(True, 1, [(0, (0,)), (0, (0,))])])

    def test_each_way_to_be_none(self):
        for why, machine in samples.bad_machines():
            with self.subTest(why), self.assertRaises(BadMachine):
                look_machine(machine)

    def test_a_fault_in_a_state_that_no_word_comes_to(self):
        with self.assertRaises(BadMachine):
            look_machine(samples.two_back() + [(False, 1, [(0, ()), (2, (1, 1))])])

    def test_a_fault_in_the_last_of_400_states(self):
        machine = samples.ring(0, 400)
        machine[399] = (True, 0, [(400, ())])
        with self.assertRaises(BadMachine):
            look_machine(machine)


class TestAllRefuseWhatIsNone(unittest.TestCase):
    def test_each_way(self):
        for why, machine in samples.bad_machines():
            with self.subTest(why):
                for word in ([], [1], [1, 2, 1]):
                    self.assertRaises(BadMachine, gone, machine, word)
                    self.assertRaises(BadMachine, takes, machine, word)
                self.assertRaises(BadMachine, reached, machine)


class TestGone(unittest.TestCase):
    def test_the_empty_word(self):
        for machine, is_taken in samples.known():
            self.assertEqual(gone(machine, []), (0, ()))

    def test_letter_by_letter(self):
        machine = samples.two_back()
        self.assertEqual(gone(machine, [7]), (1, (7,)))
        self.assertEqual(gone(machine, [7, 7]), (3, (7,)))
        self.assertEqual(gone(machine, [7, 8]), (2, (7, 8)))
        self.assertEqual(gone(machine, [7, 8, 7]), (4, (8, 7)))
        self.assertEqual(gone(machine, [7, 8, 8]), (3, (8,)))
        self.assertEqual(gone(machine, [7, 8, 9]), (2, (8, 9)))
        self.assertEqual(gone(machine, [7, 8, 9, 7]), (2, (9, 7)))
        self.assertEqual(gone(machine, [7, 8, 8, 8]), (5, (8,)))

    def test_a_box_may_go_to_many_places(self):
        machine = samples.with_two_boxes((2, (1, 0)), (1, (0,)), (2, (2, 0)))
        self.assertEqual(gone(machine, [4, 5]), (2, (4, 5)))
        self.assertEqual(gone(machine, [4, 5, 4]), (2, (5, 4)))
        self.assertEqual(gone(machine, [4, 5, 5]), (1, (4,)))
        self.assertEqual(gone(machine, [4, 5, 6]), (2, (6, 4)))
        self.assertEqual(gone(machine, [4, 5, 6, 5]), (2, (5, 6)))

    def test_six_boxes(self):
        machine = samples.keeper(0, 6)
        self.assertEqual(gone(machine, [9, 8, 9, 7, 6, 5, 7, 4, 3]), (6, (9, 8, 7, 6, 5, 4)))

    def test_all_letters_alike_and_none(self):
        machine = samples.neighbours()
        self.assertEqual(gone(machine, list(range(1000))), (1, (999,)))
        self.assertEqual(gone(machine, [5] * 1000), (2, ()))
        self.assertEqual(gone(samples.two_back(), [5] * 1000), (5, (5,)))

    def test_letters_below_0_and_of_15_figures(self):
        machine = samples.two_back()
        self.assertEqual(gone(machine, [FAR, -FAR]), (2, (FAR, -FAR)))
        self.assertEqual(gone(machine, [FAR, -FAR, FAR]), (4, (-FAR, FAR)))
        self.assertEqual(gone(machine, [-1, 0, 1, FAR - 1]), (2, (1, FAR - 1)))
        self.assertEqual(gone(machine, [-1, -1]), (3, (-1,)))

    def test_letters_like_numbers_of_boxes_are_only_letters(self):
        self.assertEqual(gone(samples.keeper(0, 3), [2, 0, 1, 3]), (3, (2, 0, 1)))
        self.assertEqual(gone(samples.keeper(0, 3), [3, 2, 2, 3, 0]), (3, (3, 2, 0)))

    def test_kinds(self):
        place = gone(samples.two_back(), [1, 2])
        self.assertIs(type(place), tuple)
        self.assertIs(type(place[1]), tuple)

    def test_no_letter_is_in_two_boxes(self):
        for seed in range(40):
            machine = samples.mixed(seed, 5, 4)
            for word in samples.words_up_to(5):
                state, kept = gone(machine, word)
                self.assertEqual(len(kept), machine[state][1])
                self.assertEqual(len(set(kept)), len(kept))
                self.assertTrue(set(kept) <= set(word))


class TestTakes(unittest.TestCase):
    def test_just_the_words_that_are_due(self):
        for machine, is_taken in samples.known():
            for word in samples.words_up_to(6):
                self.assertIs(takes(machine, word), bool(is_taken(word)))

    def test_the_empty_word(self):
        self.assertIs(takes(samples.everything(), []), True)
        self.assertIs(takes(samples.nothing(), []), False)

    def test_letters_called_otherwise(self):
        names = [FAR, -3, 0, -FAR, 12, 1]
        for seed in range(40):
            machine = samples.mixed(seed, 5, 4)
            for word in samples.words_up_to(5):
                state, kept = gone(machine, word)
                otherwise = [names[letter] for letter in word]
                self.assertIs(takes(machine, otherwise), takes(machine, word))
                self.assertEqual(gone(machine, otherwise), (state, tuple(names[letter] for letter in kept)))

    def test_a_long_word(self):
        word = list(range(5000)) + [0]
        self.assertIs(takes(samples.first_again(), word), True)
        self.assertIs(takes(samples.first_again(), word + [1]), False)


class TestReached(unittest.TestCase):
    def test_all(self):
        self.assertEqual(reached(samples.nothing()), [True])
        self.assertEqual(reached(samples.two_back()), [True] * 6)
        self.assertEqual(reached(samples.ring(0, 400)), [True] * 400)
        self.assertEqual(reached(samples.keeper(0, 6)), [True] * 7)

    def test_states_that_no_word_comes_to(self):
        machine = [
            (True, 0, [(3, (0,))]),
            (True, 0, [(2, ())]),
            (True, 0, [(1, ())]),
            (True, 1, [(3, (0,)), (0, ())]),
            (True, 0, [(0, ())]),
        ]
        self.assertEqual(reached(machine), [True, False, False, True, False])

    def test_state_0_is_come_to_by_the_empty_word(self):
        self.assertEqual(reached([(True, 0, [(1, ())]), (True, 0, [(1, ())])]), [True, True])

    def test_by_the_move_of_a_box_alone(self):
        machine = samples.with_two_boxes((1, (0,)), (3, ()), (1, (2,))) + [(False, 0, [(3, ())])]
        self.assertEqual(reached(machine), [True, True, True, True])

    def test_against_words(self):
        for seed in range(60):
            machine = samples.mixed(seed, 5, 3)
            seen = {gone(machine, word)[0] for word in samples.words_up_to(5)}
            self.assertEqual(reached(machine), [number in seen for number in range(5)])


class TestNothingIsChangedOrKept(unittest.TestCase):
    def test_what_is_handed_in(self):
        things = [machine for machine, is_taken in samples.known()]
        things += [machine for why, machine in samples.bad_machines()]
        for machine in things:
            for call in (look_machine, reached, lambda some: gone(some, [1, 2, 1]), lambda some: takes(some, [1, 1])):
                before = copy.deepcopy(machine)
                try:
                    call(machine)
                except BadMachine:
                    pass
                self.assertEqual(machine, before)

    def test_words(self):
        for call in (gone, takes):
            word = [3, 1, 3, 3]
            call(samples.two_back(), word)
            self.assertEqual(word, [3, 1, 3, 3])
            self.assertRaises(BadMachine, call, [], word)
            self.assertEqual(word, [3, 1, 3, 3])

    def test_a_told_list_is_a_new_one(self):
        machine = samples.two_back()
        told = reached(machine)
        told[0] = False
        told.append(True)
        self.assertEqual(reached(machine), [True] * 6)
        self.assertEqual(machine, samples.two_back())

    def test_a_machine_that_was_changed_is_asked_anew(self):
        machine = samples.nothing()
        self.assertIs(takes(machine, [1]), False)
        machine[0] = (True, 0, [(0, ())])
        self.assertIs(takes(machine, [1]), True)


if __name__ == "__main__":
    unittest.main()
