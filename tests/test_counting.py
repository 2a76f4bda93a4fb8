"""Promise 6.1, and 0.1 to 0.3 as far as they speak of boxword/counting.py."""

import unittest

import samples
from boxword.counting import called, how_many
from boxword.errors import BadMachine, BadWord
from boxword.joining import joined, turned
from boxword.machines import takes

FAR = samples.FAR
OTHER_LENGTHS = (-1, -2, -30, -31, 31, 32, 60, 10 ** 14, FAR, -FAR)


def partitions(length, parts):
    """In how many ways that many things fall into that many parts."""
    row = [1]
    for size in range(length):
        row = [(at * row[at] if at < len(row) else 0) + (row[at - 1] if at > 0 else 0) for at in range(len(row) + 1)]
    return row[parts] if parts < len(row) else 0


def all_words(length):
    return sum(partitions(length, parts) for parts in range(length + 1))


class TestCalled(unittest.TestCase):
    def test_the_empty_word(self):
        self.assertEqual(called([]), [])

    def test_one_letter(self):
        for letter in (0, 1, 7, -1, FAR, -FAR):
            self.assertEqual(called([letter]), [0])
            self.assertEqual(called([letter, letter, letter]), [0, 0, 0])

    def test_letters_that_come_again(self):
        self.assertEqual(called([7, 3, 7, 7, 9, 3]), [0, 1, 0, 0, 2, 1])
        self.assertEqual(called([2, 1, 0, 1, 2]), [0, 1, 2, 1, 0])
        self.assertEqual(called([1, 0]), [0, 1])
        self.assertEqual(called([3, 3, 0, 0, 3, 1]), [0, 0, 1, 1, 0, 2])

    def test_letters_below_0_and_of_15_figures(self):
        self.assertEqual(called([-1, 0, -1, 1, -FAR, FAR, -FAR]), [0, 1, 0, 2, 3, 4, 3])
        self.assertEqual(called([FAR, -FAR, FAR - 1, FAR]), [0, 1, 2, 0])

    def test_a_called_word_stays_as_it_is(self):
        for word in samples.words_up_to(6):
            self.assertEqual(called(word), word)

    def test_words_with_the_same_letters_alike_are_called_alike(self):
        names = [FAR, -3, 0, -FAR, 12, 1]
        for word in samples.words_up_to(6):
            self.assertEqual(called([names[letter] for letter in word]), word)

    def test_a_long_word(self):
        self.assertEqual(called(list(range(5000, 0, -1)) + [1, 5000]), list(range(5000)) + [4999, 0])

    def test_a_word_is_not_changed_and_another_one_is_told(self):
        word = [0, 1, 0]
        some = called(word)
        self.assertIsNot(some, word)
        some.append(4)
        self.assertEqual(word, [0, 1, 0])
        self.assertEqual(called(word), [0, 1, 0])
        other = [5, 3, 5]
        called(other)
        self.assertEqual(other, [5, 3, 5])

    def test_kinds(self):
        some = called([4, 5, 4])
        self.assertIs(type(some), list)
        self.assertEqual([type(letter) for letter in some], [int, int, int])


class TestHowMany(unittest.TestCase):
    def test_all_words_and_none(self):
        self.assertEqual([how_many(samples.everything(), long) for long in range(8)], [1, 1, 2, 5, 15, 52, 203, 877])
        self.assertEqual([how_many(samples.nothing(), long) for long in range(31)], [0] * 31)
        for long in range(31):
            self.assertEqual(how_many(samples.everything(), long), all_words(long))

    def test_the_empty_word_alone(self):
        machine = [(True, 0, [(1, ())]), (False, 0, [(1, ())])]
        self.assertEqual([how_many(machine, long) for long in (0, 1, 2, 30)], [1, 0, 0, 0])
        self.assertEqual([how_many(turned(machine), long) for long in (0, 1, 2, 3)], [0, 1, 2, 5])

    def test_one_letter(self):
        for machine, is_taken in samples.known():
            self.assertEqual(how_many(machine, 0), 1 if is_taken([]) else 0)
            self.assertEqual(how_many(machine, 1), 1 if is_taken([4]) else 0)

    def test_against_all_called_words_of_a_few_letters(self):
        for machine, is_taken in samples.known():
            for long in range(8):
                due = len([word for word in samples.words_of(long) if is_taken(word)])
                self.assertEqual(how_many(machine, long), due)

    def test_machines_of_any_form(self):
        words = [samples.words_of(long) for long in range(7)]
        for seed in range(70):
            machine = samples.mixed(seed, 1 + seed % 11, seed % 7)
            for long in range(7):
                due = len([word for word in words[long] if takes(machine, word)])
                self.assertEqual(how_many(machine, long), due)

    def test_six_boxes_and_eight_letters(self):
        for machine in (samples.keeper(0, 6), samples.among(6), samples.picker(4, [(0, 1, 2, 3), (1, 0, 3, 2)])):
            for long in (7, 8):
                due = len([word for word in samples.words_of(long) if takes(machine, word)])
                self.assertEqual(how_many(machine, long), due)

    def test_thirty_letters(self):
        self.assertEqual(how_many(samples.everything(), 30), 846749014511809332450147)
        # The last letter hangs on those ahead of it alone.
        self.assertEqual(how_many(samples.first_again(), 30), all_words(29))
        self.assertEqual(how_many(samples.two_back(), 30), all_words(29))
        self.assertEqual(how_many(samples.ring(0, 3), 30), all_words(30))
        self.assertEqual(how_many(samples.ring(1, 3), 30), 0)

    def test_thirty_letters_and_many_boxes(self):
        for boxes in range(7):
            machine = samples.keeper(0, boxes)
            for long in (29, 30):
                due = sum(partitions(long, parts) for parts in range(boxes, long + 1))
                self.assertEqual(how_many(machine, long), due)
                self.assertEqual(how_many(turned(machine), long), all_words(long) - due)
        # The last letter is one of the six that came first, be the others what they are.
        due = sum(6 * partitions(29, parts) for parts in range(6, 30))
        self.assertEqual(how_many(samples.among(6), 30), due)

    def test_machines_joined(self):
        one, other = samples.first_again(), samples.two_back()
        for long in (0, 1, 5, 30):
            both, either, less, odd = [how_many(joined(word, one, other), long) for word in
                                       ("both", "either", "less", "odd")]
            self.assertEqual(both + either, how_many(one, long) + how_many(other, long))
            self.assertEqual(less + both, how_many(one, long))
            self.assertEqual(odd + both, either)

    def test_machines_that_take_the_same_words_take_as_many(self):
        for number, (machine, is_taken) in enumerate(samples.known()):
            other = samples.otherwise(machine, number)
            for long in (0, 1, 2, 3, 12, 30):
                self.assertEqual(how_many(other, long), how_many(machine, long))

    def test_large_machines(self):
        machine = samples.mixed(6, 400, 6)
        self.assertEqual(how_many(machine, 30) + how_many(turned(machine), 30), all_words(30))
        due = len([word for word in samples.words_of(5) if takes(machine, word)])
        self.assertEqual(how_many(machine, 5), due)

    def test_good_states_that_no_word_comes_to(self):
        lost = [(True, 0, [(0, ())]), (True, 1, [(1, ()), (2, (0,))])]
        self.assertEqual([how_many(samples.nothing() + lost, long) for long in range(6)], [0] * 6)

    def test_kinds(self):
        for machine, is_taken in samples.known():
            for long in (0, 1, 30):
                self.assertIs(type(how_many(machine, long)), int)


class TestRefusals(unittest.TestCase):
    def test_other_lengths(self):
        for machine in (samples.nothing(), samples.everything(), samples.keeper(0, 6)):
            for long in OTHER_LENGTHS:
                with self.subTest(long), self.assertRaises(BadWord):
                    how_many(machine, long)

    def test_what_is_no_machine(self):
        for why, machine in samples.bad_machines():
            for long in (0, 1, 30):
                with self.subTest(why), self.assertRaises(BadMachine):
                    how_many(machine, long)

    def test_what_is_no_machine_ahead_of_other_lengths(self):
        for why, machine in samples.bad_machines():
            for long in (-1, 31, FAR, -FAR):
                with self.subTest(why), self.assertRaises(BadMachine):
                    how_many(machine, long)


class TestNothingIsChangedOrKept(unittest.TestCase):
    def test_a_machine_that_was_changed_is_asked_anew(self):
        machine = samples.nothing()
        self.assertEqual(how_many(machine, 3), 0)
        machine[0] = (True, 0, [(0, ())])
        self.assertEqual(how_many(machine, 3), 5)


if __name__ == "__main__":
    unittest.main()
