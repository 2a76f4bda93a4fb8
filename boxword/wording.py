"""The least word that a machine takes."""

from boxword.machines import MOST_BOXES, gone_on, look_machine


def least_word(machine):
    look_machine(machine)
    left = steps_left(machine)
    if left[0] is None:
        return None
    place = (0, ())
    word = []
    while left[place[0]] > 0:
        letter = least_letter_on(machine, place, left)
        word.append(letter)
        place = gone_on(machine, place, letter)
    return word


# For each state how many letters it takes at least to come to a good one, or
# None. Each move of a state can be gone, whatever its boxes have.
def steps_left(machine):
    left = [0 if state[0] else None for state in machine]
    ahead = states_ahead(machine)
    waiting = [number for number, state in enumerate(machine) if state[0]]
    seen = 0
    while seen < len(waiting):
        here = waiting[seen]
        seen += 1
        for number in ahead[here]:
            if left[number] is None:
                left[number] = left[here] + 1
                waiting.append(number)
    return left


def states_ahead(machine):
    ahead = [[] for state in machine]
    for number, state in enumerate(machine):
        for move in state[2]:
            ahead[move[0]].append(number)
    return ahead


# One of the letters 0 to 6 is in no box, and the least of those that are in
# none is as good as any other: so no letter above 6 ever comes into the word.
def least_letter_on(machine, place, left):
    nearer = left[place[0]] - 1
    fit = [letter for letter in range(MOST_BOXES + 1) if left[gone_on(machine, place, letter)[0]] == nearer]
    return fit[0]
