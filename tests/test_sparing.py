"""Promise 5.1, and 0.1 to 0.3 as far as they speak of boxword/sparing.py."""

import copy
import itertools
import unittest

import samples
from boxword.errors import BadMachine
from boxword.joining import joined, turned
from boxword.likeness import told
from boxword.machines import gone, gone_on, look_machine, takes
from boxword.sparing import least

KLEIN = [(0, 1, 2, 3), (1, 0, 3, 2), (2, 3, 0, 1), (3, 2, 1, 0)]


def same_from(machine, place, spot):
    """Whether the same words are taken from two places on, by going from both together wherever letters lead."""
    found = [called(place, spot)]
    for first, second in found:
        if machine[first[0]][0] != machine[second[0]][0]:
            return False
        for letter in range(len(set(first[1] + second[1])) + 1):
            step = called(gone_on(machine, first, letter), gone_on(machine, second, letter))
            if step not in found:
                found.append(step)
    return True


def called(place, spot):
    names = {}
    for letter in place[1] + spot[1]:
        names.setdefault(letter, len(names))
    return put(place, names), put(spot, names)


def put(place, names):
    return place[0], tuple(names[letter] for letter in place[1])


def needed_letters(machine, place, held):
    """The letters in needed boxes of a place, in the order of those that are held."""
    needed = []
    for letter in held:
        names = {some: -1 if some == letter else some for some in place[1]}
        if letter in place[1] and not same_from(machine, place, put(place, names)):
            needed.append(letter)
    return needed


def least_by_places(machine):
    """The least machine, found by comparing the places to which words come, one with another."""
    found = [([], [])]
    built = []
    for word, order in found:
        held = order + [len(word)]
        moves = []
        for letter in held:
            place = gone(machine, word + [letter])
            needed = needed_letters(machine, place, held)
            ways = ways_to(machine, place, needed, found)
            if not ways:
                ways = [(len(found), tuple(needed))]
                found.append((word + [letter], needed))
            moves.append(min((number, tuple(held.index(some) for some in way)) for number, way in ways))
        built.append((takes(machine, word), len(order), moves))
    return built


def ways_to(machine, place, needed, found):
    """All that were found from which the same words are taken, with the letters that their boxes have then."""
    ways = []
    for number, (word, order) in enumerate(found):
        spot = gone(machine, word)
        for way in itertools.permutations(needed):
            if len(way) == len(order):
                names = {letter: -2 - letter for letter in spot[1]}
                names.update(zip(order, way))
                if same_from(machine, place, put(spot, names)):
                    ways.append((number, way))
    return ways


class TestNumbersAndOrder(unittest.TestCase):
    def test_machines_that_are_their_own_least(self):
        for machine in (samples.nothing(), samples.everything(), samples.first_again(), samples.neighbours()):
            self.assertEqual(least(machine), machine)

    def test_states_as_they_are_come_to_and_boxes_in_the_order_of_their_sources(self):
        self.assertEqual(least(samples.two_back()), [
            (False, 0, [(1, (0,))]),
            (False, 1, [(2, (0,)), (3, (0, 1))]),
            (False, 1, [(4, (0,)), (3, (0, 1))]),
            (False, 2, [(5, (0, 1)), (2, (1,)), (3, (1, 2))]),
            (True, 1, [(4, (0,)), (3, (0, 1))]),
            (True, 2, [(2, (0,)), (5, (1, 0)), (3, (0, 2))]),
        ])

    def test_boxes_keep_their_order_when_they_are_come_to_again(self):
        # State 2 keeps the letter that came last ahead of the other one.
        machine = [
            (False, 0, [(1, (0,))]),
            (False, 1, [(1, (0,)), (2, (1, 0))]),
            (False, 2, [(2, (0, 1)), (3, ()), (2, (2, 0))]),
            (True, 0, [(3, ())]),
        ]
        self.assertEqual(least(machine), [
            (False, 0, [(1, (0,))]),
            (False, 1, [(1, (0,)), (2, (0, 1))]),
            (False, 2, [(3, ()), (2, (0, 1)), (2, (1, 2))]),
            (True, 0, [(3, ())]),
        ])

    def test_of_several_ways_the_least_sources(self):
        stay = [(boxes, (0, 1)) for boxes in (3, 3, 2)]
        self.assertEqual(least(samples.among(2)), [
            (False, 0, [(1, (0,))]),
            (False, 1, [(1, (0,)), (2, (0, 1))]),
            (False, 2, list(stay)),
            (True, 2, list(stay)),
        ])

    def test_of_several_ways_the_least_sources_with_the_letter_that_is_read(self):
        # State 2 has two letters in any order, and lets the one go that is not read.
        machine = [
            (False, 0, [(1, (0,))]),
            (False, 1, [(1, (0,)), (2, (0, 1))]),
            (False, 2, [(3, (0,)), (3, (1,)), (4, ())]),
            (True, 1, [(3, (0,)), (2, (1, 0))]),
            (False, 0, [(4, ())]),
        ]
        due = list(machine)
        due[3] = (True, 1, [(3, (0,)), (2, (0, 1))])
        self.assertEqual(least(machine), due)

    def test_ways_that_go_round(self):
        # Of state 3 all that matters is which letter comes behind which in the round; the boxes 0 and 2 of state 2
        # may change their places.
        machine = [
            (False, 0, [(1, (0,))]),
            (False, 1, [(1, (0,)), (4, (0, 1))]),
            (False, 3, [(3, (0, 1, 2)), (5, ()), (3, (2, 1, 0)), (6, ())]),
            (False, 3, [(2, (0, 1, 2)), (2, (1, 2, 0)), (2, (2, 0, 1)), (6, ())]),
            (False, 2, [(4, (0, 1)), (4, (0, 1)), (3, (2, 1, 0))]),
            (True, 0, [(5, ())]),
            (False, 0, [(6, ())]),
        ]
        self.assertEqual(least(machine), [
            (False, 0, [(1, (0,))]),
            (False, 1, [(1, (0,)), (2, (0, 1))]),
            (False, 2, [(2, (0, 1)), (2, (0, 1)), (3, (0, 1, 2))]),
            (False, 3, [(4, (0, 1, 2)), (4, (1, 2, 0)), (4, (0, 2, 1)), (5, ())]),
            (False, 3, [(3, (0, 1, 2)), (3, (0, 2, 1)), (6, ()), (5, ())]),
            (False, 0, [(5, ())]),
            (True, 0, [(6, ())]),
        ])
        self.assertEqual(least(machine), least_by_places(machine))

    def test_sources_are_numbers_in_the_least_machine(self):
        # Box 0 of state 2 is not needed, so its box 1 is called 0.
        machine = [
            (False, 0, [(1, (0,))]),
            (False, 1, [(1, (0,)), (2, (0, 1))]),
            (False, 2, [(2, (1, 0)), (3, (1,)), (2, (1, 2))]),
            (True, 1, [(3, (0,)), (4, ())]),
            (False, 0, [(4, ())]),
        ]
        self.assertEqual(least(machine), [
            (False, 0, [(1, (0,))]),
            (False, 1, [(1, (0,)), (2, (1,))]),
            (False, 1, [(3, (0,)), (2, (1,))]),
            (True, 1, [(3, (0,)), (4, ())]),
            (False, 0, [(4, ())]),
        ])


class TestStatesThatAreAlike(unittest.TestCase):
    def test_told_twice(self):
        twice = [(at % 2 == 0, 0, [((at + 1) % 4, ())]) for at in range(4)]
        self.assertEqual(least(twice), samples.ring(0, 2))
        self.assertEqual(least(samples.ring(1, 3)), [
            (False, 0, [(1, ())]),
            (True, 0, [(2, ())]),
            (False, 0, [(0, ())]),
        ])

    def test_all_alike(self):
        for seed in range(20):
            machine = samples.mixed(seed, 6, 6)
            self.assertEqual(least(samples.good_all_over(machine)), samples.everything())
        self.assertEqual(least(samples.good_all_over(samples.ring(0, 400))), samples.everything())

    def test_alike_only_if_their_boxes_are_called_otherwise(self):
        # States 2 and 3 are one, with their boxes the other way round.
        machine = [
            (False, 0, [(1, (0,))]),
            (False, 1, [(1, (0,)), (2, (0, 1))]),
            (False, 2, [(4, ()), (3, (1, 0)), (3, (2, 1))]),
            (False, 2, [(2, (1, 0)), (4, ()), (2, (0, 2))]),
            (True, 0, [(4, ())]),
        ]
        self.assertEqual(least(machine), [
            (False, 0, [(1, (0,))]),
            (False, 1, [(1, (0,)), (2, (0, 1))]),
            (False, 2, [(3, ()), (2, (0, 1)), (2, (1, 2))]),
            (True, 0, [(3, ())]),
        ])

    def test_not_alike_if_other_letters_are_kept(self):
        # The states 1 and 3 lead to the same one, but with the old letter and with the new one.
        machine = [
            (False, 0, [(1, (0,))]),
            (False, 1, [(3, (0,)), (2, (0, 1))]),
            (False, 2, [(4, ()), (2, (0, 1)), (2, (0, 1))]),
            (False, 1, [(3, (0,)), (2, (1, 0))]),
            (True, 0, [(4, ())]),
        ]
        self.assertEqual(least(machine), [
            (False, 0, [(1, (0,))]),
            (False, 1, [(2, (0,)), (3, (0,))]),
            (False, 1, [(2, (0,)), (3, (1,))]),
            (False, 1, [(4, ()), (3, (0,))]),
            (True, 0, [(4, ())]),
        ])

    def test_far_apart(self):
        self.assertEqual(least(samples.ring(0, 400)), samples.ring(0, 400))
        self.assertEqual(least(samples.ring(399, 1)), samples.ring(399, 1))

    def test_states_that_no_word_comes_to(self):
        lost = [(True, 2, [(3, (1, 0)), (0, ()), (1, (2,))]), (False, 0, [(4, ())])]
        self.assertEqual(least(samples.first_again() + lost), samples.first_again())
        self.assertEqual(least(samples.everything() + [(False, 0, [(0, ())])]), samples.everything())

    def test_the_state_0_may_be_come_to_again(self):
        machine = [(True, 0, [(1, (0,))]), (False, 1, [(2, ()), (1, (0,))]), (True, 0, [(1, (0,))])]
        self.assertEqual(least(machine), [(True, 0, [(1, (0,))]), (False, 1, [(0, ()), (1, (0,))])])


class TestBoxesThatAreNotNeeded(unittest.TestCase):
    def test_a_box_that_nothing_asks_for(self):
        machine = [(False, 0, [(1, (0,))]), (True, 1, [(1, (0,)), (1, (0,))])]
        self.assertEqual(least(machine), [(False, 0, [(1, ())]), (True, 0, [(1, ())])])

    def test_where_it_makes_no_difference_any_more(self):
        self.assertEqual(least(samples.keeper(0, 2)), [
            (False, 0, [(1, (0,))]),
            (False, 1, [(1, (0,)), (2, ())]),
            (True, 0, [(2, ())]),
        ])

    def test_a_box_that_is_handed_on_to_where_it_is_not_needed(self):
        machine = samples.with_two_boxes((2, (1, 0)), (2, (0, 1)), (2, (1, 2)))
        self.assertEqual(least(machine), [
            (True, 0, [(1, (0,))]),
            (False, 1, [(1, (0,)), (2, ())]),
            (True, 0, [(2, ())]),
        ])

    def test_a_letter_that_does_as_new_ones_do_but_takes_another_place(self):
        # Box 1 of state 2 has the last letter: when it comes again it stays, a new one takes its place.
        machine = [
            (False, 0, [(1, (0,))]),
            (False, 1, [(3, ()), (2, (0, 1))]),
            (False, 2, [(3, ()), (2, (0, 1)), (2, (0, 2))]),
            (True, 0, [(3, ())]),
        ]
        self.assertEqual(least(machine), [
            (False, 0, [(1, (0,))]),
            (False, 1, [(2, ()), (1, (0,))]),
            (True, 0, [(2, ())]),
        ])

    def test_a_box_that_is_needed_only_far_on(self):
        length = 50
        machine = [(False, 0, [(1, (0,))])]
        for at in range(1, length):
            machine.append((False, 1, [(at + 1, (0,)), (at + 1, (0,))]))
        machine.append((False, 1, [(length + 1, ()), (length + 2, ())]))
        machine += [(True, 0, [(length + 1, ())]), (False, 0, [(length + 2, ())])]
        self.assertEqual(least(machine), machine)
        machine[length] = (False, 1, [(length + 2, ()), (length + 2, ())])
        self.assertEqual(least(machine), samples.nothing())

    def test_six_needed_boxes(self):
        machine = least(samples.among(6))
        self.assertEqual([state[1] for state in machine], [0, 1, 2, 3, 4, 5, 6, 6])
        self.assertEqual(machine[6], (False, 6, [(7, (0, 1, 2, 3, 4, 5))] * 6 + [(6, (0, 1, 2, 3, 4, 5))]))

    def test_less_boxes_from_letter_to_letter(self):
        machine = least(samples.picker(3, [(0, 1, 2)]))
        self.assertEqual([state[1] for state in machine], [0, 1, 0, 2, 3, 2, 1, 0])


class TestLeast(unittest.TestCase):
    def look(self, machine):
        """That the least machine is one, takes the same words, and is its own least."""
        some = least(machine)
        look_machine(some)
        self.assertEqual(told(machine, some)[0], "alike")
        self.assertEqual(least(some), some)
        self.assertLessEqual(len(some), len(machine))
        return some

    def test_of_known_machines(self):
        words = samples.words_up_to(6)
        for machine, is_taken in samples.known():
            some = self.look(machine)
            self.assertEqual(some, least_by_places(machine))
            for word in words:
                self.assertIs(takes(some, word), bool(is_taken(word)))

    def test_of_machines_of_any_form_against_places(self):
        sizes = {}
        for seed in range(400):
            machine = samples.mixed(seed, 1 + seed % 7, seed % 5)
            some = self.look(machine)
            self.assertEqual(some, least_by_places(machine))
            sizes[(len(some), max(state[1] for state in some))] = True
        self.assertGreater(len(sizes), 12)

    def test_machines_built_otherwise_have_the_very_same(self):
        machines = [machine for machine, is_taken in samples.known()]
        machines += [samples.among(boxes) for boxes in range(1, 5)]
        machines += [samples.mixed(seed, 2 + seed % 9, 1 + seed % 6) for seed in range(100)]
        for number, machine in enumerate(machines):
            for seed in range(4):
                other = samples.otherwise(machine, 10 * number + seed)
                self.assertEqual(least(other), least(machine))

    def test_machines_that_were_joined(self):
        one, other = samples.first_again(), samples.neighbours()
        self.assertEqual(least(joined("both", one, other)), least(joined("both", other, one)))
        self.assertEqual(least(joined("odd", one, one)), samples.nothing())
        self.assertEqual(least(joined("either", one, turned(one))), samples.everything())
        self.assertEqual(least(joined("less", one, other)), least(joined("both", one, turned(other))))
        self.assertEqual(least(turned(turned(samples.two_back()))), least(samples.two_back()))
        self.assertEqual(least(joined("both", one, one)), one)

    def test_all_ways_to_call_three_and_four_boxes(self):
        groups = [
            [(0, 1, 2)], [(0, 1, 2), (1, 0, 2)], [(0, 1, 2), (2, 1, 0)], [(0, 1, 2), (1, 2, 0), (2, 0, 1)],
            list(itertools.permutations(range(3))), KLEIN, list(itertools.permutations(range(4))),
            [(0, 1, 2, 3), (1, 2, 3, 0), (2, 3, 0, 1), (3, 0, 1, 2)], KLEIN[:2], [KLEIN[0], (1, 0, 2, 3)],
            KLEIN + [(1, 0, 2, 3), (0, 1, 3, 2), (2, 3, 1, 0), (3, 2, 0, 1)], [(0, 1, 2, 3), (3, 1, 2, 0)],
            [(1, 0, 2), (0, 2, 1)], [(2, 0, 1, 3), (1, 3, 2, 0)], [(2, 1, 0)], [(3, 1, 0, 2)],
        ]
        for number, orders in enumerate(groups):
            machine = samples.picker(len(orders[0]), orders)
            some = self.look(machine)
            self.assertEqual(some, least_by_places(machine))
            for seed in range(3):
                self.assertEqual(least(samples.otherwise(machine, 10 * number + seed)), some)

    def test_ways_that_are_told_apart_only_far_on(self):
        # Eight states in a ring are soon known apart, and their two boxes are soon known as needed; but that these
        # are not one as good as the other shows in the last state alone, eight letters on.
        goods = [True, True, True, False, True, False, False, False]
        machine = [(False, 0, [(1, (0,))]), (False, 1, [(1, (0,)), (2, (0, 1))])]
        for at, good in enumerate(goods):
            next_good = goods[(at + 1) % 8]
            machine.append((good, 2, [(11 if next_good else 10, ())] * 2 + [(3 + at, (0, 1))]))
        machine[9] = (False, 2, [(11, ()), (12, ()), (2, (1, 0))])
        machine += [(True, 0, [(10, ())]), (False, 0, [(11, ())]), (False, 0, [(10, ())])]
        some = self.look(machine)
        self.assertEqual(some, least_by_places(machine))
        self.assertIn((2, (1, 0)), [state[2][2] for state in some if state[1] == 2])
        machine[9] = (False, 2, [(11, ()), (11, ()), (2, (1, 0))])
        some = self.look(machine)
        self.assertNotIn((2, (1, 0)), [state[2][2] for state in some if state[1] == 2])

    def test_orders_that_are_called_otherwise_make_the_same_machine_just_if_they_take_the_same_words(self):
        one = samples.picker(3, [(0, 1, 2), (1, 2, 0)])
        other = samples.picker(3, [(1, 2, 0), (0, 1, 2)])
        another = samples.picker(3, [(0, 1, 2), (2, 0, 1)])
        self.assertEqual(least(one), least(other))
        self.assertNotEqual(least(one), least(another))
        self.assertEqual(told(one, another), ("unlike", [0, 1, 2, 1, 2, 0]))

    def test_large_machines(self):
        for boxes in (3, 6):
            machine = samples.mixed(boxes, 400, boxes)
            some = least(machine)
            look_machine(some)
            self.assertEqual(least(some), some)
            for word in samples.words_up_to(5):
                self.assertIs(takes(some, word), takes(machine, word))

    def test_kinds(self):
        machine = least(samples.two_back())
        self.assertIs(type(machine), list)
        for state in machine:
            self.assertEqual([type(some) for some in state], [bool, int, list])
            self.assertIs(type(state), tuple)
            for move in state[2]:
                self.assertIs(type(move), tuple)
                self.assertEqual([type(some) for some in move], [int, tuple])
                self.assertEqual({type(source) for source in move[1]} - {int}, set())


class TestRefusals(unittest.TestCase):
    def test_what_is_no_machine(self):
        for why, machine in samples.bad_machines():
            with self.subTest(why), self.assertRaises(BadMachine):
                least(machine)


class TestNothingIsChangedOrKept(unittest.TestCase):
    def test_what_is_handed_in(self):
        things = [machine for machine, is_taken in samples.known()]
        things += [samples.among(3)]
        things += [machine for why, machine in samples.bad_machines()]
        for machine in things:
            before = copy.deepcopy(machine)
            try:
                least(machine)
            except BadMachine:
                pass
            self.assertEqual(machine, before)

    def test_a_told_machine_is_a_new_one(self):
        machine = samples.first_again()
        samples.spoil(least(machine))
        self.assertEqual(machine, samples.first_again())
        self.assertEqual(least(machine), samples.first_again())

    def test_what_was_handed_in_may_be_changed_behind_the_call(self):
        machine = samples.first_again()
        some = least(machine)
        samples.spoil(machine)
        self.assertEqual(some, samples.first_again())


if __name__ == "__main__":
    unittest.main()
