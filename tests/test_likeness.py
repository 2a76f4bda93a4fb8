"""Promises 4.1 and 4.2, and 0.1 to 0.3 as far as they speak of boxword/likeness.py."""

import copy
import itertools
import random
import unittest

import samples
from boxword.errors import BadMachine, TooMany
from boxword.joining import joined, turned
from boxword.likeness import shows_alike, told
from boxword.machines import gone, gone_on, takes

FAR = samples.FAR
FIRST = (0, 0, ())


def first_again_with_a_spare_box():
    """Takes what first_again takes; its state 3 also keeps the last letter, which is of no use."""
    return [
        (False, 0, [(2, (0,))]),
        (True, 1, [(1, (0,)), (3, (0, 1))]),
        (False, 1, [(1, (0,)), (3, (0, 1))]),
        (False, 2, [(1, (0,)), (3, (0, 1)), (3, (0, 2))]),
        (True, 0, [(4, ())]),
    ]


SPARE_TRIPLES = [FIRST, (1, 2, ((0, 0),)), (2, 1, ((0, 0),)), (1, 3, ((0, 0), (None, 1)))]


def triples_by_words(one, other):
    """All triples that both come to together, found by sending words through both."""
    found = [([], [])]
    triples = [FIRST]
    for came, letters in found:
        held = letters + [len(came)]
        for letter in held:
            longer = came + [letter]
            triple, order = samples.triple_of(gone(one, longer), gone(other, longer), held)
            if triple not in triples:
                triples.append(triple)
                found.append((longer, order))
    return triples


def first_that_parts(one, other, length):
    """The least word of at most that many letters that just one takes."""
    for size in range(length + 1):
        for word in itertools.product(range(size), repeat=size):
            if takes(one, list(word)) != takes(other, list(word)):
                return list(word)
    return None


def shows_by_letters(one, other, some):
    """What 4.2 asks for, with a letter put into the boxes of each pair."""
    return FIRST in some and all(holds_by_letters(one, other, triple, some) for triple in some)


def holds_by_letters(one, other, triple, some):
    first, second, pairs = triple
    if first not in range(len(one)) or second not in range(len(other)) or (None, None) in pairs:
        return False
    for side, state in ((0, one[first]), (1, other[second])):
        boxes = [pair[side] for pair in pairs if pair[side] is not None]
        if len(boxes) != state[1] or set(boxes) != set(range(state[1])):
            return False
    if one[first][0] != other[second][0]:
        return False
    letters = list(range(len(pairs) + 1))
    in_one = {pair[0]: letter for letter, pair in enumerate(pairs)}
    in_other = {pair[1]: letter for letter, pair in enumerate(pairs)}
    place = (first, tuple(in_one[box] for box in range(one[first][1])))
    spot = (second, tuple(in_other[box] for box in range(other[second][1])))
    steps = [(gone_on(one, place, letter), gone_on(other, spot, letter)) for letter in letters]
    return all(samples.triple_of(a, b, letters)[0] in some for a, b in steps)


class TestAlike(unittest.TestCase):
    def test_of_one_state(self):
        self.assertEqual(told(samples.nothing(), samples.nothing()), ("alike", [FIRST]))
        self.assertEqual(told(samples.everything(), samples.everything()), ("alike", [FIRST]))

    def test_states_told_twice(self):
        twice = [(at % 2 == 0, 0, [((at + 1) % 4, ())]) for at in range(4)]
        self.assertEqual(told(samples.ring(0, 2), twice), ("alike", [FIRST, (1, 1, ()), (0, 2, ()), (1, 3, ())]))
        self.assertEqual(told(twice, samples.ring(0, 2)), ("alike", [FIRST, (1, 1, ()), (2, 0, ()), (3, 1, ())]))

    def test_a_box_of_no_use_and_a_state_that_no_word_comes_to(self):
        one, other = samples.first_again(), first_again_with_a_spare_box()
        self.assertEqual(told(one, other), ("alike", SPARE_TRIPLES))
        turned_round = [FIRST, (2, 1, ((0, 0),)), (1, 2, ((0, 0),)), (3, 1, ((0, 0), (1, None)))]
        self.assertEqual(told(other, one), ("alike", turned_round))

    def test_boxes_called_otherwise(self):
        one = samples.with_two_boxes((1, (0,)), (2, (0, 1)), (2, (1, 2)))
        other = [
            (True, 0, [(2, (0,))]),
            (True, 2, [(1, (0, 1)), (2, (1,)), (1, (2, 0))]),
            (False, 1, [(2, (0,)), (1, (1, 0))]),
        ]
        self.assertEqual(told(one, other), ("alike", [FIRST, (1, 2, ((0, 0),)), (2, 1, ((0, 1), (1, 0)))]))

    def test_pairs_that_stand_in_another_turn_make_another_triple(self):
        machine = samples.with_two_boxes((2, (1, 0)), (1, (0,)), (2, (2, 0)))
        self.assertEqual(told(machine, machine), ("alike", [
            FIRST,
            (1, 1, ((0, 0),)),
            (2, 2, ((0, 0), (1, 1))),
            (2, 2, ((1, 1), (0, 0))),
        ]))

    def test_state_by_state_and_move_by_move(self):
        machine = samples.two_back()
        self.assertEqual(told(machine, machine), ("alike", [
            FIRST,
            (1, 1, ((0, 0),)),
            (3, 3, ((0, 0),)),
            (2, 2, ((0, 0), (1, 1))),
            (5, 5, ((0, 0),)),
            (4, 4, ((1, 1), (0, 0))),
            (4, 4, ((0, 0), (1, 1))),
        ]))

    def test_machines_built_otherwise_against_words(self):
        machines = [machine for machine, is_taken in samples.known()]
        machines += [samples.mixed(seed, 2 + seed % 4, 1 + seed % 2) for seed in range(30)]
        for number, machine in enumerate(machines):
            other = samples.otherwise(machine, number)
            due = triples_by_words(machine, other) if number < 20 else None
            for one, another in ((machine, other), (other, samples.otherwise(machine, 100 + number))):
                word, triples = told(one, another)
                self.assertEqual(word, "alike")
                self.assertEqual(triples[0], FIRST)
                self.assertEqual(len(set(triples)), len(triples))
                self.assertIs(shows_alike(one, another, triples), True)
                if due is not None and one is machine:
                    self.assertEqual(triples, due)

    def test_more_triples_than_a_joined_machine_may_have_states(self):
        one = samples.good_all_over(samples.ring(0, 20))
        other = samples.good_all_over(samples.ring(0, 21))
        self.assertRaises(TooMany, joined, "odd", one, other)
        self.assertEqual(told(one, other), ("alike", [(at % 20, at % 21, ()) for at in range(420)]))

    def test_more_letters_in_boxes_than_a_joined_machine_may_have(self):
        one = samples.good_all_over(samples.keeper(0, 3))
        other = samples.good_all_over(samples.keeper(3, 4))
        self.assertRaises(TooMany, joined, "odd", one, other)
        word, triples = told(one, other)
        self.assertEqual((word, max(len(triple[2]) for triple in triples)), ("alike", 7))
        self.assertEqual(triples, triples_by_words(one, other))
        one, other = samples.good_all_over(samples.keeper(0, 6)), samples.good_all_over(samples.keeper(6, 6))
        word, triples = told(one, other)
        self.assertEqual((word, max(len(triple[2]) for triple in triples)), ("alike", 12))

    def test_400_states(self):
        machine = samples.ring(0, 400)
        self.assertEqual(told(machine, machine), ("alike", [(at, at, ()) for at in range(400)]))

    def test_kinds(self):
        pair = told(samples.first_again(), first_again_with_a_spare_box())
        self.assertEqual((type(pair), type(pair[0]), type(pair[1])), (tuple, str, list))
        for triple in pair[1]:
            self.assertEqual([type(some) for some in triple], [int, int, tuple])
            self.assertIs(type(triple), tuple)
            self.assertTrue(all(type(some) is tuple and len(some) == 2 for some in triple[2]))


class TestUnlike(unittest.TestCase):
    def test_known_machines(self):
        known = [machine for machine, is_taken in samples.known()]
        for one in known:
            for other in known:
                due = first_that_parts(one, other, 4)
                if one == other:
                    self.assertEqual(told(one, other)[0], "alike")
                else:
                    self.assertEqual(told(one, other), ("unlike", due))

    def test_the_empty_word(self):
        self.assertEqual(told(samples.nothing(), samples.everything()), ("unlike", []))
        self.assertEqual(told(samples.two_back(), turned(samples.two_back())), ("unlike", []))

    def test_a_word_that_either_one_takes(self):
        self.assertEqual(told(samples.nothing(), samples.neighbours()), ("unlike", [0, 0]))
        self.assertEqual(told(samples.neighbours(), samples.nothing()), ("unlike", [0, 0]))

    def test_letters_that_must_be_unlike(self):
        self.assertEqual(told(samples.keeper(0, 3), samples.keeper(0, 4)), ("unlike", [0, 1, 2]))
        self.assertEqual(told(samples.keeper(0, 6), samples.nothing()), ("unlike", [0, 1, 2, 3, 4, 5]))
        self.assertEqual(told(samples.keeper(0, 3), samples.keeper(3, 3)), ("unlike", [0, 1, 2]))

    def test_a_long_word(self):
        self.assertEqual(told(samples.ring(0, 16), samples.ring(0, 25)), ("unlike", [0] * 16))
        self.assertEqual(told(samples.ring(399, 1), samples.nothing()), ("unlike", [0] * 399))

    def test_only_how_boxes_are_called_is_unlike(self):
        one = samples.with_two_boxes((1, (0,)), (2, (0, 1)), (2, (1, 2)))
        other = samples.with_two_boxes((2, (0, 1)), (1, (0,)), (2, (1, 2)))
        word = told(one, other)[1]
        self.assertEqual(word, first_that_parts(one, other, 4))

    def test_of_any_form_against_all_words_of_a_few_letters(self):
        seen = {"alike": 0, "unlike": 0, "long": 0, "too many": 0}
        for seed in range(300):
            one = samples.mixed(seed, 2 + seed % 6, 1 + seed % 4)
            other = samples.mixed(5000 + seed, 2 + seed % 5, 1 + seed % 3)
            if seed % 3 == 0:
                other = nearly(one, seed)
            due = first_that_parts(one, other, 4)
            try:
                word, shown = told(one, other)
            except TooMany:
                self.assertRaises(TooMany, joined, "odd", one, other)
                seen["too many"] += 1
                continue
            if word == "unlike" and len(shown) > 4:
                self.assertIsNone(due)
                self.assertIsNot(takes(one, shown), takes(other, shown))
                word = "long"
            elif word == "unlike":
                self.assertEqual(shown, due)
            else:
                self.assertIsNone(due)
                self.assertIs(shows_by_letters(one, other, shown), True)
            seen[word] += 1
        self.assertGreater(min(seen["alike"], seen["unlike"]), 40)
        self.assertGreater(seen["too many"], 0)

    def test_kinds(self):
        pair = told(samples.keeper(0, 2), samples.nothing())
        self.assertEqual((type(pair), type(pair[0]), type(pair[1])), (tuple, str, list))


def nearly(machine, seed):
    """The machine built otherwise, with one state good that was not, or the other way round."""
    other = samples.otherwise(machine, seed)
    at = random.Random(seed).randrange(len(other))
    other[at] = (not other[at][0],) + other[at][1:]
    return other


class TestTooMany(unittest.TestCase):
    def test_states(self):
        self.assertRaises(TooMany, told, samples.ring(0, 20), samples.ring(0, 21))
        self.assertRaises(TooMany, told, samples.ring(1, 16), samples.ring(0, 25))
        self.assertRaises(TooMany, told, samples.ring(0, 400), samples.ring(0, 399))
        self.assertEqual(told(samples.ring(0, 20), samples.ring(0, 20))[0], "alike")

    def test_states_where_the_empty_word_parts_them(self):
        self.assertRaises(TooMany, told, turned(samples.ring(0, 20)), samples.ring(0, 21))

    def test_boxes(self):
        self.assertRaises(TooMany, told, samples.keeper(0, 3), samples.keeper(3, 4))
        self.assertRaises(TooMany, told, samples.keeper(6, 1), samples.keeper(0, 6))

    def test_unlike_at_last_with_very_many_triples(self):
        one, other = slow_to_part(200, True), slow_to_part(200, False)
        self.assertRaises(TooMany, told, one, other)
        self.assertRaises(TooMany, told, other, one)


def slow_to_part(length, good):
    """Keeps six letters, puts them in another order with each letter, and counts the ones that are in no box; when
    these were so many, it ends in a state that is good or not."""
    machine = samples.keeper(0, 6)[:6]
    for number in range(6, 6 + length):
        machine.append((False, 6, samples.shuffling(6, number, number + 1)))
    machine[-1] = (False, 6, machine[-1][2][:6] + [(6 + length, ())])
    return machine + [(good, 0, [(6 + length, ())])]


class TestShows(unittest.TestCase):
    def setUp(self):
        self.one = samples.first_again()
        self.other = first_again_with_a_spare_box()

    def shows(self, some):
        answer = shows_alike(self.one, self.other, some)
        self.assertIs(answer, shows_by_letters(self.one, self.other, some))
        return answer

    def with_last(self, triple):
        return SPARE_TRIPLES[:3] + [triple]

    def test_what_told_gives(self):
        self.assertIs(self.shows(told(self.one, self.other)[1]), True)

    def test_the_empty_list(self):
        self.assertIs(self.shows([]), False)

    def test_a_triple_left_out(self):
        for triple in SPARE_TRIPLES:
            self.assertIs(self.shows([some for some in SPARE_TRIPLES if some != triple]), False)

    def test_the_first_triple_alone(self):
        self.assertIs(self.shows([FIRST]), False)
        self.assertIs(shows_alike(samples.everything(), samples.everything(), [FIRST]), True)
        self.assertIs(shows_alike(samples.nothing(), samples.everything(), [FIRST]), False)

    def test_a_triple_told_twice(self):
        for triple in SPARE_TRIPLES:
            self.assertIs(self.shows(SPARE_TRIPLES + [triple]), True)

    def test_in_any_order(self):
        for some in itertools.permutations(SPARE_TRIPLES):
            self.assertIs(self.shows(list(some)), True)

    def test_a_triple_put_in_that_both_never_come_to(self):
        # Behind these are others that are not in the list.
        self.assertIs(self.shows(SPARE_TRIPLES + [(1, 0, ((0, None),))]), False)
        self.assertIs(self.shows(SPARE_TRIPLES + [(1, 2, ((0, None), (None, 0)))]), False)
        # This one goes on in itself, and in nothing else.
        lost = samples.everything() + [(True, 0, [(1, ())]), (False, 0, [(2, ())])]
        self.assertIs(shows_alike(lost, samples.everything(), [FIRST, (1, 0, ())]), True)
        self.assertIs(shows_alike(lost, samples.everything(), [FIRST, (2, 0, ())]), False)

    def test_a_triple_put_in_whose_pairs_stand_in_another_turn(self):
        # It goes on in itself and in what is in the list.
        some = (1, 3, ((None, 1), (0, 0)))
        self.assertIs(self.shows(SPARE_TRIPLES + [some]), True)
        # But it does not stand for the one with the turn of 2.1.
        self.assertIs(self.shows(self.with_last(some)), False)

    def test_one_good_and_one_not(self):
        self.assertIs(self.shows(SPARE_TRIPLES + [(1, 1, ((0, 0),))]), False)
        self.assertIs(self.shows(SPARE_TRIPLES + [(2, 2, ((0, 0),))]), False)
        self.assertIs(self.shows(SPARE_TRIPLES + [(0, 4, ())]), False)

    def test_pairs_changed_left_out_and_put_in(self):
        for pairs in (
            (), ((0, 0),), ((None, 1),), ((0, None), (None, 1)), ((None, 0), (None, 1)), ((0, 1), (None, 0)),
            ((0, 0), (0, 1)), ((0, 0), (None, 1), (None, 1)), ((0, 0), (None, 1), (0, None)),
            ((0, 0), (None, 1), (None, 0)), ((0, 0), (None, 0)), ((0, 0), (0, 0)), ((0, 0), (None, 1), (None, 2)),
            ((0, 0), (1, 1)), ((0, 0), (None, 2)), ((0, 0), (None, -1)), ((-1, 0), (None, 1)), ((1, 0), (None, 1)),
            ((0, 0), (None, FAR)), ((0, 0), (None, -FAR)), ((FAR, 0), (None, 1)), ((-FAR, 0), (None, 1)),
            ((0, 0), (None, None), (None, 1)), ((0, 0), (None, 1), (None, None)), ((None, None),),
        ):
            self.assertIs(self.shows(self.with_last((1, 3, pairs))), False, pairs)
            self.assertIs(self.shows(SPARE_TRIPLES + [(1, 3, pairs)]), False, pairs)
        self.assertIs(self.shows(self.with_last((1, 3, ((0, 0), (None, 1))))), True)

    def test_none_and_none_beside_what_shows(self):
        self.assertIs(shows_alike(samples.everything(), samples.everything(), [FIRST, (0, 0, ((None, None),))]), False)
        self.assertIs(shows_alike(samples.everything(), samples.everything(), [(0, 0, ((None, None),))]), False)

    def test_states_that_are_not_there(self):
        for number in (-1, -2, -3, -5, 3, 5, 6, FAR, -FAR):
            self.assertIs(self.shows(SPARE_TRIPLES + [(number, 1, ((0, 0),))]), False)
            self.assertIs(self.shows(SPARE_TRIPLES + [(number, 0, ())]), False)
        for number in (-1, -2, -3, -4, -5, 5, 6, FAR, -FAR):
            self.assertIs(self.shows(SPARE_TRIPLES + [(2, number, ((0, 0),))]), False)
            self.assertIs(self.shows(SPARE_TRIPLES + [(0, number, ())]), False)
        self.assertIs(shows_alike(samples.everything(), samples.everything(), [FIRST, (-1, 0, ())]), False)
        self.assertIs(shows_alike(samples.everything(), samples.everything(), [FIRST, (0, -1, ())]), False)

    def test_a_turn_that_comes_back_must_be_in_the_list_too(self):
        machine = samples.with_two_boxes((2, (1, 0)), (1, (0,)), (2, (2, 0)))
        triples = told(machine, machine)[1]
        self.assertIs(shows_alike(machine, machine, triples), True)
        self.assertIs(shows_alike(machine, machine, triples[:3]), False)
        swapped = triples[:3] + [(2, 2, ((0, 0), (1, 1)))]
        self.assertIs(shows_alike(machine, machine, swapped), False)

    def test_machines_that_are_unlike_are_never_shown_alike(self):
        for seed in range(60):
            one = samples.mixed(seed, 4, 2)
            other = nearly(one, seed)
            if first_that_parts(one, other, 4) is not None:
                self.assertIs(shows_alike(one, other, triples_by_words(one, other)), False)

    def test_lists_changed_by_chance(self):
        seen = {True: 0, False: 0}
        for seed in range(60):
            chance = random.Random(seed)
            one = samples.mixed(seed, 3 + seed % 3, 1 + seed % 3)
            other = samples.otherwise(one, seed)
            some = told(one, other)[1]
            if len(some) > 60:
                continue
            for step in range(20):
                other_list = changed(some, chance)
                answer = shows_alike(one, other, other_list)
                self.assertIs(answer, shows_by_letters(one, other, other_list))
                seen[answer] += 1
        self.assertGreater(min(seen.values()), 40)


def changed(some, chance):
    """The list with one of its triples left out, put in otherwise, told twice or changed."""
    some = list(some)
    at = chance.randrange(len(some))
    first, second, pairs = some[at]
    pairs = list(pairs)
    what = chance.randrange(6)
    if what == 0:
        some.pop(at)
    elif what == 1:
        chance.shuffle(pairs)
        some.append((first, second, tuple(pairs)))
    elif what == 2:
        some[at] = (first + chance.choice((-1, 1)), second, tuple(pairs))
    elif what == 3:
        pairs.insert(chance.randint(0, len(pairs)), (chance.choice((None, 0, 1)), chance.choice((None, 0, 1))))
        some[at] = (first, second, tuple(pairs))
    elif what == 4 and pairs:
        pairs.pop(chance.randrange(len(pairs)))
        some.append((first, second, tuple(pairs)))
    else:
        chance.shuffle(some)
    return some


class TestRefusals(unittest.TestCase):
    def test_what_is_no_machine_on_either_side_and_on_both(self):
        good = samples.two_back()
        for why, bad in samples.bad_machines():
            with self.subTest(why):
                for one, other in ((bad, good), (good, bad), (bad, bad)):
                    self.assertRaises(BadMachine, told, one, other)
                    for some in ([], [FIRST], [(9, -9, ((None, None),))]):
                        self.assertRaises(BadMachine, shows_alike, one, other, some)

    def test_ahead_of_too_many(self):
        bad = samples.ring(0, 396) + [(True, 0, [])]
        self.assertRaises(BadMachine, told, samples.ring(0, 400), bad)
        self.assertRaises(BadMachine, told, bad, samples.ring(0, 400))


class TestNothingIsChangedOrKept(unittest.TestCase):
    def test_what_is_handed_in(self):
        things = [machine for machine, is_taken in samples.known()]
        things += [samples.ring(0, 399), samples.keeper(4, 6)]
        things += [machine for why, machine in samples.bad_machines()]
        some = told(samples.two_back(), samples.two_back())[1]
        calls = (told, lambda one, other: shows_alike(one, other, some))
        for thing in things:
            for call in calls:
                other = samples.two_back()
                before = copy.deepcopy((thing, other, some))
                for one, another in ((thing, other), (other, thing)):
                    try:
                        call(one, another)
                    except (BadMachine, TooMany):
                        pass
                    self.assertEqual((thing, other, some), before)

    def test_a_told_list_is_a_new_one(self):
        one, other = samples.first_again(), first_again_with_a_spare_box()
        told(one, other)[1].clear()
        self.assertEqual(told(one, other), ("alike", SPARE_TRIPLES))
        told(samples.nothing(), samples.neighbours())[1].append(5)
        self.assertEqual(told(samples.nothing(), samples.neighbours()), ("unlike", [0, 0]))
        self.assertEqual((one, other), (samples.first_again(), first_again_with_a_spare_box()))

    def test_what_was_handed_in_may_be_changed_behind_the_call(self):
        one, other = samples.first_again(), first_again_with_a_spare_box()
        pair = told(one, other)
        samples.spoil(one)
        samples.spoil(other)
        self.assertEqual(pair, ("alike", SPARE_TRIPLES))


if __name__ == "__main__":
    unittest.main()
