"""Words up to how their letters are called, and how many of them a machine takes."""

from boxword.errors import BadWord
from boxword.machines import look_machine

MOST_LETTERS = 30


def called(word):
    names = {}
    return [names.setdefault(letter, len(names)) for letter in word]


# What a word does from some place on hangs on its state alone; how many words
# go on from there, on how many unlike letters came. So words are counted by
# pairs of these two.
def how_many(machine, long):
    look_machine(machine)
    if long < 0 or long > MOST_LETTERS:
        raise BadWord("words of 0 to 30 letters are counted")
    counts = {(0, 0): 1}
    for step in range(long):
        counts = counts_behind(machine, counts)
    return sum([count for place, count in counts.items() if machine[place[0]][0]])


def counts_behind(machine, counts):
    longer = {}
    for place, count in counts.items():
        state = machine[place[0]]
        letters = place[1]
        last = state[2][state[1]]
        for move in state[2][:state[1]]:
            add_words(longer, (move[0], letters), count)
        # Only letters that came are in boxes, so the others of them are in
        # none, and go by the last move like the one that is new.
        add_words(longer, (last[0], letters), count * (letters - state[1]))
        add_words(longer, (last[0], letters + 1), count)
    return longer


def add_words(counts, place, more):
    counts[place] = counts.get(place, 0) + more
