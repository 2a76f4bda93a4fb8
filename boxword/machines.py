"""Machines: which things are machines, and how words go through them."""

from boxword.errors import BadMachine

MOST_STATES = 400
MOST_BOXES = 6


def look_machine(machine):
    if len(machine) < 1 or len(machine) > MOST_STATES:
        raise BadMachine("a machine has 1 to 400 states")
    if machine[0][1] != 0:
        raise BadMachine("state 0 has no boxes")
    for state in machine:
        look_state(machine, state)


def look_state(machine, state):
    boxes = state[1]
    moves = state[2]
    if boxes < 0 or boxes > MOST_BOXES:
        raise BadMachine("a state has 0 to 6 boxes")
    if len(moves) != boxes + 1:
        raise BadMachine("a state has one move for each box, and one more")
    for move in moves[:boxes]:
        look_move(machine, move, boxes)
    # In the other moves the letter that is read is in a box already: as a
    # source of its own it could come into two boxes.
    look_move(machine, moves[boxes], boxes + 1)


# `letters` is how many letters there are for the sources to choose from.
def look_move(machine, move, letters):
    target = move[0]
    sources = move[1]
    if target < 0 or target >= len(machine):
        raise BadMachine("a move leads to a state of the machine")
    if len(sources) != machine[target][1]:
        raise BadMachine("a move has one source for each box of its state")
    if len(set(sources)) != len(sources):
        raise BadMachine("no source stands twice in a move")
    for source in sources:
        if source < 0 or source >= letters:
            raise BadMachine("a source is a box, or in the last move the letter that is read")


def gone(machine, word):
    look_machine(machine)
    place = (0, ())
    for letter in word:
        place = gone_on(machine, place, letter)
    return place


# `place` is a pair as `gone` tells it; the machine has been looked at before.
def gone_on(machine, place, letter):
    moves = machine[place[0]][2]
    kept = place[1]
    if letter in kept:
        move = moves[kept.index(letter)]
    else:
        move = moves[len(kept)]
    # The number of boxes, as a source, stands for the letter that is read.
    held = kept + (letter,)
    return (move[0], tuple([held[source] for source in move[1]]))


def takes(machine, word):
    return machine[gone(machine, word)[0]][0]


# Letters never run out, so each move of a state that a word comes to is gone
# by some longer word: what the boxes have does not matter here.
def reached(machine):
    look_machine(machine)
    come_to = [False for state in machine]
    come_to[0] = True
    waiting = [0]
    while len(waiting) > 0:
        number = waiting.pop()
        for move in machine[number][2]:
            if not come_to[move[0]]:
                come_to[move[0]] = True
                waiting.append(move[0])
    return come_to
