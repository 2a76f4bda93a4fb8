"""Whether two machines take the same words, and what shows it."""

from boxword.joining import FIRST_TRIPLE, behind, joined
from boxword.machines import look_machine
from boxword.sparing import least
from boxword.wording import least_word


# The least machines tell the two cases apart without a walk through all
# triples, of which there may be very many where the two are unlike.
def told(one, other):
    look_machine(one)
    look_machine(other)
    if least(one) == least(other):
        return ("alike", triples_of(one, other))
    return ("unlike", least_word(joined("odd", one, other)))


def triples_of(one, other):
    triples = [FIRST_TRIPLE]
    listed = {FIRST_TRIPLE: True}
    seen = 0
    while seen < len(triples):
        triple = triples[seen]
        seen += 1
        for read in range(len(triple[2]) + 1):
            step = behind(one, other, triple, read)[0]
            if step not in listed:
                listed[step] = True
                triples.append(step)
    return triples


def shows_alike(one, other, some):
    look_machine(one)
    look_machine(other)
    listed = dict([(triple, True) for triple in some])
    if FIRST_TRIPLE not in listed:
        return False
    for triple in some:
        if not is_sound(one, other, triple) or not is_closed(one, other, triple, listed):
            return False
    return True


def is_sound(one, other, triple):
    pairs = triple[2]
    if not has_boxes(one, triple[0], [pair[0] for pair in pairs]):
        return False
    if not has_boxes(other, triple[1], [pair[1] for pair in pairs]):
        return False
    return (None, None) not in pairs and one[triple[0]][0] == other[triple[1]][0]


# Whether the state is there and these are its boxes, each one once.
def has_boxes(machine, number, boxes):
    if number < 0 or number >= len(machine):
        return False
    return sorted([box for box in boxes if box is not None]) == list(range(machine[number][1]))


def is_closed(one, other, triple, listed):
    steps = [behind(one, other, triple, read)[0] for read in range(len(triple[2]) + 1)]
    return all([step in listed for step in steps])
