"""Machines and words that several tests use; each call makes new ones."""

import itertools
import random

FAR = 999999999999999


def nothing():
    return [(False, 0, [(0, ())])]


def everything():
    return [(True, 0, [(0, ())])]


def first_again():
    """Takes the words of two letters or more whose last letter is the first."""
    return [
        (False, 0, [(1, (0,))]),
        (False, 1, [(2, (0,)), (1, (0,))]),
        (True, 1, [(2, (0,)), (1, (0,))]),
    ]


def is_first_again(word):
    return len(word) > 1 and word[0] == word[-1]


def neighbours():
    """Takes the words in which a letter stands twice, one right behind the other."""
    return [
        (False, 0, [(1, (0,))]),
        (False, 1, [(2, ()), (1, (1,))]),
        (True, 0, [(2, ())]),
    ]


def is_neighbours(word):
    return any(a == b for a, b in zip(word, word[1:]))


def two_back():
    """Takes the words whose last letter is the last one but two."""
    unlike = [(4, (1, 0)), (3, (1,)), (2, (1, 2))]
    alike = [(5, (0,)), (2, (0, 1))]
    return [
        (False, 0, [(1, (0,))]),
        (False, 1, [(3, (0,)), (2, (0, 1))]),
        (False, 2, list(unlike)),
        (False, 1, list(alike)),
        (True, 2, list(unlike)),
        (True, 1, list(alike)),
    ]


def is_two_back(word):
    return len(word) > 2 and word[-1] == word[-3]


def keeper(skipped, boxes):
    """Keeps the first letters behind the skipped ones, each once; good when its boxes are all there."""
    machine = [(False, 0, [(at + 1, ())]) for at in range(skipped)]
    for kept in range(boxes + 1):
        number = skipped + kept
        same = tuple(range(kept))
        moves = [(number, same) for box in range(kept)]
        if kept < boxes:
            moves.append((number + 1, tuple(range(kept + 1))))
        else:
            moves.append((number, same))
        machine.append((kept == boxes, kept, moves))
    return machine


def ring(tail, length):
    """Goes once through the tail, then round and round; good where the round begins."""
    count = tail + length
    return [(at == tail, 0, [(at + 1 if at + 1 < count else tail, ())]) for at in range(count)]


def known():
    """Pairs of a machine and of what it takes, told without one."""
    return [
        (nothing(), lambda word: False),
        (everything(), lambda word: True),
        (first_again(), is_first_again),
        (neighbours(), is_neighbours),
        (two_back(), is_two_back),
        (keeper(0, 3), lambda word: len(set(word)) > 2),
        (keeper(2, 2), lambda word: len(set(word[2:])) > 1),
        (ring(1, 3), lambda word: len(word) % 3 == 1),
    ]


def mixed(seed, states, boxes):
    """A machine of any form; the same one for the same seed."""
    chance = random.Random(seed)
    widths = [0] + [at % (boxes + 1) for at in range(1, states)]
    chance.shuffle(widths)
    widths.remove(0)
    widths.insert(0, 0)
    machine = []
    for width in widths:
        moves = [mixed_move(chance, widths, width) for box in range(width)]
        moves.append(mixed_move(chance, widths, width + 1))
        machine.append((chance.random() < 0.5, width, moves))
    return machine


def mixed_move(chance, widths, letters):
    some = [at for at, width in enumerate(widths) if width <= letters]
    # The wider one of two, so that boxes are really used.
    target = max(chance.choice(some), chance.choice(some), key=lambda at: widths[at])
    return (target, tuple(chance.sample(range(letters), widths[target])))


def words_of(length):
    """All words of a length, up to how their letters are called."""
    words = [[]]
    for step in range(length):
        words = [word + [letter] for word in words for letter in range(len(set(word)) + 1)]
    return words


def words_up_to(length):
    return [word for some in range(length + 1) for word in words_of(some)]


def bad_machines():
    """Pairs of why a thing is no machine and the thing; all are of the right kinds."""
    some = [("no states", []), ("401 states", ring(0, 401))]
    for boxes in (-1, 7, 8, -FAR, FAR):
        some.append((f"{boxes} boxes", [(True, boxes, [(0, ())])]))
        some.append((f"{boxes} boxes behind", [(True, 0, [(0, ())]), (True, boxes, [(0, ())])]))
    some.append(("a box less than none, rightly moved", [(True, 0, [(0, ())]), (True, -1, [])]))
    some.append(("seven boxes, rightly moved", keeper(0, 7)))
    some.append(("boxes in state 0", [(True, 1, [(0, (0,)), (0, (0,))])]))
    return some + bad_moves() + bad_targets() + bad_sources()


def bad_moves():
    return [
        ("no move", [(True, 0, [])]),
        ("a move too many", [(True, 0, [(0, ()), (0, ())])]),
        ("a move too few", [(True, 0, [(1, (0,))]), (True, 1, [(0, ())])]),
        ("no moves of a box", [(True, 0, [(1, (0,))]), (True, 1, [])]),
        ("a move too many of a box", [(True, 0, [(1, (0,))]), (True, 1, [(0, ()), (0, ()), (0, ())])]),
        ("a move too many, not come to", [(True, 0, [(0, ())]), (True, 0, [(0, ()), (0, ())])]),
    ]


def bad_targets():
    some = []
    for target in (-1, -2, 2, 3, FAR, -FAR):
        some.append((f"to {target} by the first state", [(True, 0, [(target, ())]), (True, 0, [(0, ())])]))
        some.append((f"to {target} by a box", [(True, 0, [(1, (0,))]), (True, 1, [(target, ()), (0, ())])]))
        some.append((f"to {target} by the last move", [(True, 0, [(1, (0,))]), (True, 1, [(0, ()), (target, ())])]))
    return some


def bad_sources():
    some = [
        ("no source", [(True, 0, [(1, ())]), (True, 1, [(0, ()), (0, ())])]),
        ("a source where no box is", [(True, 0, [(0, (0,))])]),
        ("a source too many", [(True, 0, [(1, (0, 0))]), (True, 1, [(0, ()), (0, ())])]),
        ("a source too few", with_two_boxes((2, (0,)), (0, ()), (0, ()))),
        ("another source too many", with_two_boxes((0, ()), (2, (0, 1, 2)), (0, ()))),
        ("a source too many in the last move", with_two_boxes((0, ()), (0, ()), (2, (0, 1, 2)))),
        ("a box twice", with_two_boxes((2, (1, 1)), (0, ()), (0, ()))),
        ("a box twice in the last move", with_two_boxes((0, ()), (0, ()), (2, (0, 0)))),
        ("the letter twice", with_two_boxes((0, ()), (0, ()), (2, (2, 2)))),
        ("the letter by the first box", with_two_boxes((2, (2, 1)), (0, ()), (0, ()))),
        ("the letter by the second box", with_two_boxes((0, ()), (2, (0, 2)), (0, ()))),
    ]
    for source in (-1, -2, -3, 3, 4, FAR, -FAR):
        some.append((f"source {source} by a box", with_two_boxes((2, (0, source)), (0, ()), (0, ()))))
        some.append((f"source {source} by the last move", with_two_boxes((0, ()), (0, ()), (2, (source, 1)))))
        some.append((f"source {source} at first", [(True, 0, [(1, (source,))]), (True, 1, [(0, ()), (0, ())])]))
    return some


def with_two_boxes(first, second, last):
    """A machine but for the three moves of its state with two boxes."""
    return [
        (True, 0, [(1, (0,))]),
        (False, 1, [(1, (0,)), (2, (0, 1))]),
        (True, 2, [first, second, last]),
    ]


def otherwise(machine, seed):
    """A machine that takes the same words and is built otherwise: states are numbered otherwise and told twice,
    their boxes are called otherwise, there are boxes that are of no use, and states that no word comes to."""
    chance = random.Random(seed)
    copies = [(0, [])] + copies_of(machine, chance)
    built = []
    for number, slots in copies:
        moves = [slot_move(machine, copies, number, slots, slot, chance) for slot in range(len(slots) + 1)]
        built.append((machine[number][0], len(slots), moves))
    widths = [len(slots) for number, slots in copies] + [0]
    return built + [(chance.random() < 0.5, 0, [mixed_move(chance, widths, 1)])]


def copies_of(machine, chance):
    """Pairs of a state and of what each box of its copy stands for: a box of that state, or None."""
    copies = []
    for number, state in enumerate(machine):
        boxes = list(range(state[1]))
        wider = boxes + [None] * chance.randint(0, 6 - state[1])
        for slots in (boxes, wider):
            chance.shuffle(slots)
            copies.append((number, slots))
    chance.shuffle(copies)
    return copies


def slot_move(machine, copies, number, slots, slot, chance):
    state = machine[number]
    letters = len(slots) + (1 if slot == len(slots) else 0)
    standing = {box: at for at, box in enumerate(slots) if box is not None}
    # A letter in a box of no use goes by the last move, and is then the letter that is read.
    standing[state[1]] = slot
    box = (slots + [None])[slot]
    move = state[2][state[1] if box is None else box]
    fit = [at for at, copy in enumerate(copies) if copy[0] == move[0] and len(copy[1]) <= letters]
    target = chance.choice(fit)
    sources = [None if some is None else standing[move[1][some]] for some in copies[target][1]]
    free = [at for at in range(letters) if at not in sources]
    chance.shuffle(free)
    return (target, tuple(free.pop() if source is None else source for source in sources))


def picker(boxes, orders):
    """Takes the words of some unlike letters, and then of the same ones again in one of some orders."""
    heads = [head for size in range(boxes + 1) for head in itertools.permutations(range(boxes), size)]
    lost = (boxes + len(heads), ())
    machine = []
    for kept in range(boxes):
        machine.append((False, kept, [lost] * kept + [(kept + 1, tuple(range(kept + 1)))]))
    for head in heads:
        longer = [head + (box,) for box in range(boxes)]
        moves = [(boxes + heads.index(some), tuple(range(boxes))) if some in heads else lost for some in longer]
        machine.append((head in orders, boxes, moves + [lost]))
    return machine + [(False, 0, [lost])]


def among(boxes):
    """Takes the words whose last letter was among the first ones that were unlike; how these are called is of no
    matter, and each letter that comes puts them in another order."""
    machine = keeper(0, boxes)[:boxes]
    machine.append((False, boxes, shuffling(boxes, boxes + 1, boxes)))
    machine.append((True, boxes, shuffling(boxes, boxes + 1, boxes)))
    return machine


def shuffling(boxes, if_there, if_new):
    same = list(range(boxes))
    moves = [(if_there, tuple(same[box:] + same[:box])) for box in range(boxes)]
    return moves + [(if_new, tuple(reversed(same)))]


def good_all_over(machine):
    return [(True, boxes, moves) for good, boxes, moves in machine]


def triple_of(in_one, in_other, held):
    """The triple of two places, and the letters of its pairs; `held` are the letters in their turn."""
    order = [letter for letter in held if letter in in_one[1] or letter in in_other[1]]
    pairs = tuple((box_of(in_one[1], letter), box_of(in_other[1], letter)) for letter in order)
    return (in_one[0], in_other[0], pairs), order


def box_of(kept, letter):
    return kept.index(letter) if letter in kept else None


def spoil(machine):
    """Changes all lists of a machine."""
    for state in machine:
        state[2].append((0, ()))
        state[2][0] = (1, (5,))
    machine.pop()
