"""Machines turned, and two machines joined into one."""

from boxword.errors import BadWord, TooMany
from boxword.machines import MOST_BOXES, MOST_STATES, look_machine

JOINING_WORDS = ("both", "either", "less", "odd")
FIRST_TRIPLE = (0, 0, ())


def turned(machine):
    look_machine(machine)
    return [(not state[0], state[1], list(state[2])) for state in machine]


def joined(word, one, other):
    if word not in JOINING_WORDS:
        raise BadWord("machines are joined by both, either, less or odd")
    look_machine(one)
    look_machine(other)
    triples = [FIRST_TRIPLE]
    numbers = {FIRST_TRIPLE: 0}
    machine = []
    while len(machine) < len(triples):
        triple = triples[len(machine)]
        boxes = len(triple[2])
        moves = []
        for read in range(boxes + 1):
            step = behind(one, other, triple, read)
            moves.append((number_of(step[0], triples, numbers), step[1]))
        good = is_due(word, one[triple[0]][0], other[triple[1]][0])
        machine.append((good, boxes, moves))
    return machine


def is_due(word, in_one, in_other):
    if word == "both":
        return in_one and in_other
    if word == "either":
        return in_one or in_other
    if word == "less":
        return in_one and not in_other
    return in_one != in_other


# A triple that is new here gets the next number.
def number_of(triple, triples, numbers):
    if triple not in numbers:
        if len(triples) >= MOST_STATES:
            raise TooMany("the joined machine would have more than 400 states")
        if len(triple[2]) > MOST_BOXES:
            raise TooMany("the joined machine would have more than 6 boxes")
        numbers[triple] = len(triples)
        triples.append(triple)
    return numbers[triple]


# The triple to which the letter of the pair with the number `read` leads, or,
# if `read` is the number of pairs, a letter that is in none; and beside it, as
# sources, for each of its pairs where that letter stood in the triple ahead.
def behind(one, other, triple, read):
    first = one[triple[0]]
    second = other[triple[1]]
    letters = list(triple[2]) + [(None, None)]
    letters[read] = (read_as(first, letters[read][0]), read_as(second, letters[read][1]))
    first_move = first[2][letters[read][0]]
    second_move = second[2][letters[read][1]]
    pairs = []
    sources = []
    for number, letter in enumerate(letters):
        pair = (box_from(first_move, letter[0]), box_from(second_move, letter[1]))
        if pair != (None, None):
            pairs.append(pair)
            sources.append(number)
    return ((first_move[0], second_move[0], tuple(pairs)), tuple(sources))


# The number of boxes is both the number of the last move, by which a letter in
# no box goes, and the source that stands for such a letter.
def read_as(state, box):
    if box is None:
        return state[1]
    return box


def box_from(move, source):
    if source in move[1]:
        return move[1].index(source)
    return None
