"""Promise 2.1, and 0.1 to 0.3 as far as they speak of boxword/joining.py."""

import copy
import unittest

import samples
from boxword.errors import BadMachine, BadWord, TooMany
from boxword.joining import joined, turned
from boxword.machines import gone, look_machine, takes

DUE = {
    "both": lambda one, other: one and other,
    "either": lambda one, other: one or other,
    "less": lambda one, other: one and not other,
    "odd": lambda one, other: one != other,
}
OTHER_WORDS = ("", "Both", "both ", " odd", "and", "or", "bothodd", "o", "les", "either\n", "[]", "0")


def joined_by_words(word, one, other):
    """The joined machine, found by sending words through both; None where it is too large."""
    found = [([], [])]
    numbers = {(0, 0, ()): 0}
    machine = []
    while len(machine) < len(found):
        came, letters = found[len(machine)]
        held = letters + [len(came)]
        moves = []
        for letter in held:
            longer = came + [letter]
            triple, order = samples.triple_of(gone(one, longer), gone(other, longer), held)
            if triple not in numbers:
                numbers[triple] = len(found)
                found.append((longer, order))
            if len(found) > 400 or len(order) > 6:
                return None
            moves.append((numbers[triple], tuple(held.index(some) for some in order)))
        good = DUE[word](takes(one, came), takes(other, came))
        machine.append((good, len(letters), moves))
    return machine


class TestTurned(unittest.TestCase):
    def test_takes_what_the_other_one_does_not(self):
        for machine, is_taken in samples.known():
            against = turned(machine)
            look_machine(against)
            for word in samples.words_up_to(6):
                self.assertIs(takes(against, word), not takes(machine, word))

    def test_state_by_state(self):
        self.assertEqual(turned(samples.first_again()), [
            (True, 0, [(1, (0,))]),
            (True, 1, [(2, (0,)), (1, (0,))]),
            (False, 1, [(2, (0,)), (1, (0,))]),
        ])
        self.assertEqual(turned(samples.nothing()), samples.everything())

    def test_twice_is_the_same_machine(self):
        for seed in range(40):
            machine = samples.mixed(seed, 6, 6)
            self.assertEqual(turned(turned(machine)), machine)

    def test_400_states(self):
        self.assertEqual(len(turned(samples.ring(0, 400))), 400)

    def test_refuses_what_is_no_machine(self):
        for why, machine in samples.bad_machines():
            with self.subTest(why), self.assertRaises(BadMachine):
                turned(machine)


class TestJoinedTakesWhatIsDue(unittest.TestCase):
    def test_of_known_machines(self):
        words = samples.words_up_to(6)
        for one, in_one in samples.known():
            for other, in_other in samples.known():
                for by in DUE:
                    machine = joined(by, one, other)
                    look_machine(machine)
                    for word in words:
                        self.assertIs(takes(machine, word), bool(DUE[by](in_one(word), in_other(word))))

    def test_of_machines_of_any_form(self):
        words = samples.words_up_to(5)
        for seed in range(60):
            one = samples.mixed(seed, 4, 2)
            other = samples.mixed(1000 + seed, 3, 1)
            for by in DUE:
                machine = joined(by, one, other)
                look_machine(machine)
                for word in words:
                    self.assertIs(takes(machine, word), DUE[by](takes(one, word), takes(other, word)))

    def test_of_a_machine_and_itself(self):
        machine = samples.two_back()
        for word in samples.words_up_to(6):
            self.assertIs(takes(joined("odd", machine, machine), word), False)
            self.assertIs(takes(joined("less", machine, machine), word), False)
            self.assertIs(takes(joined("both", machine, machine), word), takes(machine, word))

    def test_letters_below_0_and_of_15_figures(self):
        machine = joined("both", samples.first_again(), samples.neighbours())
        self.assertIs(takes(machine, [samples.FAR, -1, -1, samples.FAR]), True)
        self.assertIs(takes(machine, [samples.FAR, -1, -1, -samples.FAR]), False)


class TestStatesAndBoxes(unittest.TestCase):
    def test_two_machines_with_a_box_each(self):
        # The triples: (0, 0, ()), (1, 1, ((0, 0),)), (2, 2, ((0, None),)),
        # (1, 1, ((0, None), (None, 0))), (1, 2, ((0, None),)), (2, 1, ((0, 0),)).
        moves = [
            [(1, (0,))],
            [(2, (0,)), (3, (0, 1))],
            [(2, (0,)), (4, (0,))],
            [(5, (0,)), (4, (0,)), (3, (0, 2))],
            [(2, (0,)), (4, (0,))],
            [(2, (0,)), (3, (0, 1))],
        ]
        goods = {
            "both": [False, False, True, False, False, False],
            "either": [False, False, True, False, True, True],
            "less": [False, False, False, False, False, True],
            "odd": [False, False, False, False, True, True],
        }
        for by in DUE:
            due = [(good, len(some) - 1, some) for good, some in zip(goods[by], moves)]
            self.assertEqual(joined(by, samples.first_again(), samples.neighbours()), due)

    def test_the_other_way_round_less_is_another_one(self):
        machine = joined("less", samples.neighbours(), samples.first_again())
        self.assertEqual([state[0] for state in machine], [False, False, False, False, True, False])

    def test_without_boxes(self):
        self.assertEqual(joined("either", samples.ring(0, 2), samples.ring(1, 2)), [
            (True, 0, [(1, ())]),
            (True, 0, [(2, ())]),
            (True, 0, [(1, ())]),
        ])

    def test_states_that_no_word_comes_to_are_left_out(self):
        one = [(True, 0, [(0, ())]), (False, 0, [(0, ())])]
        self.assertEqual(joined("both", one, one), samples.everything())

    def test_the_letter_that_is_read_stays_in_its_turn_if_it_was_there(self):
        # Both keep the last two letters, but the first one keeps the older one ahead,
        # and a letter of the first that the second reads keeps its place.
        one = samples.with_two_boxes((2, (1, 0)), (2, (0, 1)), (2, (1, 2)))
        other = [(False, 0, [(1, (0,))]), (True, 1, [(0, ()), (1, (1,))])]
        machine = joined("both", one, other)
        # Behind two letters the triple is (2, 1, ((0, None), (1, 0))). When the older
        # one comes, it is (2, 1, ((1, 0), (0, None))): their turn stays.
        here = machine[machine[1][2][1][0]]
        self.assertEqual(here[1], 2)
        self.assertEqual(here[2][0][1], (0, 1))
        self.assertNotEqual(machine[here[2][0][0]], here)
        # When a new one comes, the older one is gone, and the new one comes last.
        self.assertEqual(here[2][2], (machine[1][2][1][0], (1, 2)))

    def test_boxes_that_stand_in_another_turn_make_another_state(self):
        one = samples.with_two_boxes((2, (1, 0)), (2, (1, 0)), (2, (2, 0)))
        self.assertEqual(joined("both", one, samples.everything()), [
            (True, 0, [(1, (0,))]),
            (False, 1, [(1, (0,)), (2, (0, 1))]),
            (True, 2, [(3, (0, 1)), (3, (0, 1)), (3, (0, 2))]),
            (True, 2, [(2, (0, 1)), (2, (0, 1)), (3, (1, 2))]),
        ])

    def test_against_words_sent_through_both(self):
        large = 0
        for seed in range(150):
            one = samples.mixed(seed, 3 + seed % 8, 2 + seed % 4)
            other = samples.mixed(1000 + seed, 3 + seed % 7, 2 + seed % 5)
            by = sorted(DUE)[seed % 4]
            due = joined_by_words(by, one, other)
            if due is None:
                large += 1
                self.assertRaises(TooMany, joined, by, one, other)
            else:
                self.assertEqual(joined(by, one, other), due)
        self.assertTrue(0 < large < 100)

    def test_kinds(self):
        machine = joined("odd", samples.two_back(), samples.neighbours())
        self.assertIs(type(machine), list)
        for state in machine:
            self.assertEqual([type(some) for some in state], [bool, int, list])
            self.assertIs(type(state), tuple)
            for move in state[2]:
                self.assertIs(type(move), tuple)
                self.assertEqual([type(some) for some in move], [int, tuple])


class TestRefusals(unittest.TestCase):
    def test_other_words(self):
        for word in OTHER_WORDS:
            self.assertRaises(BadWord, joined, word, samples.two_back(), samples.neighbours())

    def test_other_words_ahead_of_all(self):
        good = samples.two_back()
        for why, bad in samples.bad_machines():
            self.assertRaises(BadWord, joined, "nor", bad, bad)
            self.assertRaises(BadWord, joined, "nor", bad, good)
            self.assertRaises(BadWord, joined, "nor", good, bad)
        self.assertRaises(BadWord, joined, "nor", samples.ring(0, 21), samples.ring(0, 20))

    def test_no_machine_on_either_side_and_on_both(self):
        good = samples.two_back()
        for why, bad in samples.bad_machines():
            for by in DUE:
                with self.subTest(why):
                    self.assertRaises(BadMachine, joined, by, bad, good)
                    self.assertRaises(BadMachine, joined, by, good, bad)
                    self.assertRaises(BadMachine, joined, by, bad, bad)

    def test_no_machine_ahead_of_too_many(self):
        large = samples.ring(0, 397) + [(True, 0, [(0, ())])]
        bad = samples.ring(0, 396) + [(True, 0, [])]
        self.assertRaises(TooMany, joined, "both", large, samples.ring(0, 396))
        self.assertRaises(BadMachine, joined, "both", large, bad)
        self.assertRaises(BadMachine, joined, "both", bad, large)


class TestTooMany(unittest.TestCase):
    def test_400_states_and_401(self):
        for by in DUE:
            self.assertEqual(len(joined(by, samples.ring(0, 16), samples.ring(0, 25))), 400)
            self.assertEqual(len(joined(by, samples.ring(1, 19), samples.ring(0, 21))), 400)
            self.assertRaises(TooMany, joined, by, samples.ring(1, 16), samples.ring(0, 25))
            self.assertRaises(TooMany, joined, by, samples.ring(0, 25), samples.ring(1, 16))

    def test_400_states_on_both_sides(self):
        large = samples.ring(0, 400)
        self.assertEqual(joined("both", large, large), large)
        self.assertRaises(TooMany, joined, "both", large, samples.ring(0, 399))

    def test_400_states_do_not_hide_another_way_to_one_of_them(self):
        machine = joined("both", samples.ring(0, 400), samples.everything())
        self.assertEqual(machine[399], (False, 0, [(0, ())]))

    def test_six_boxes_and_seven(self):
        for by in DUE:
            machine = joined(by, samples.keeper(0, 3), samples.keeper(3, 3))
            self.assertEqual(max(state[1] for state in machine), 6)
            self.assertRaises(TooMany, joined, by, samples.keeper(0, 3), samples.keeper(3, 4))
            self.assertRaises(TooMany, joined, by, samples.keeper(6, 1), samples.keeper(0, 6))

    def test_letters_that_are_in_both_count_once(self):
        machine = samples.keeper(0, 6)
        self.assertEqual(joined("both", machine, machine), machine)
        self.assertEqual(joined("either", machine, samples.keeper(0, 5))[-1][1], 6)


class TestNothingIsChangedOrKept(unittest.TestCase):
    def test_what_is_handed_in(self):
        things = [machine for machine, is_taken in samples.known()]
        things += [samples.ring(0, 399), samples.keeper(4, 6), []]
        things += [machine for why, machine in samples.bad_machines()]
        for by in ("both", "nor"):
            for one in things:
                other = samples.two_back()
                before = copy.deepcopy(one)
                for call in (turned, lambda some: joined(by, some, other), lambda some: joined(by, other, some)):
                    try:
                        call(one)
                    except (BadMachine, BadWord, TooMany):
                        pass
                    self.assertEqual(one, before)
                    self.assertEqual(other, samples.two_back())

    def test_a_turned_machine_is_a_new_one(self):
        machine = samples.two_back()
        told = turned(machine)
        samples.spoil(told)
        self.assertEqual(machine, samples.two_back())
        self.assertEqual(turned(machine), turned(samples.two_back()))

    def test_a_joined_machine_is_a_new_one(self):
        one, other = samples.two_back(), samples.everything()
        due = joined("both", samples.two_back(), samples.everything())
        samples.spoil(joined("both", one, other))
        self.assertEqual(one, samples.two_back())
        self.assertEqual(other, samples.everything())
        self.assertEqual(joined("both", one, other), due)

    def test_what_was_handed_in_may_be_changed_behind_the_call(self):
        one, other = samples.two_back(), samples.neighbours()
        calls = [turned(one), joined("less", one, other)]
        before = copy.deepcopy(calls)
        samples.spoil(one)
        samples.spoil(other)
        self.assertEqual(calls, before)


if __name__ == "__main__":
    unittest.main()
