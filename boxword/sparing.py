"""The least machine that takes the same words.

States are parted by longer and longer words. A view of a state tells, for the words so far, its kind (the first state
from which the same ones are taken), its needed boxes in the order in which the kind calls them, and the number of the
group of ways that mean the same.
"""

from boxword.machines import look_machine
from boxword.ways import Ways


def least(machine):
    look_machine(machine)
    ways = Ways()
    return rebuilt(machine, parted(machine, ways), ways)


def parted(machine, ways):
    before = [None for state in machine]
    views = first_views(machine, ways)
    forms = list(before)
    finer = True
    while finer:
        forms = [
            form if same_behind(state, before, views) else form_of(state, views, ways)
            for state, form in zip(machine, forms)
        ]
        before = views
        views = views_of(forms)
        finer = size_of(views, ways) != size_of(before, ways)
    return views


# By the empty word alone.
def first_views(machine, ways):
    alone = ways.group_number(((),))
    return views_of([(state[0], (), alone) for state in machine])


def same_behind(state, before, views):
    return all([before[move[0]] == views[move[0]] for move in state[2]])


# A form is like a view, but in the place of the kind it has what all states of
# that kind have in common.
def form_of(state, views, ways):
    results = [result_of(move, views[move[0]], ways) for move in state[2]]
    needed = tuple([box for box in range(state[1]) if is_needed(results, box, ways)])
    shape = ways.renamed(results, needed)
    calling = ways.calling(shape)
    kept = tuple([needed[box] for box in calling[0]])
    return ((state[0], ways.renamed(shape, calling[0])), kept, calling[1])


def result_of(move, view, ways):
    letters = tuple([move[1][box] for box in view[1]])
    return (view[0], view[2], ways.least_letters(view[2], letters))


# A box is not needed if no other letter leads to where its own one is needed,
# and its own one does what any letter in no box does.
def is_needed(results, box, ways):
    last = len(results) - 1
    for read, result in enumerate(results):
        if read != box and box in result[2]:
            return True
    names = dict([(letter, letter) for letter in results[box][2]])
    names[box] = last
    return ways.renamed_result(results[box], names) != results[last]


# A kind is called by its first state, so that it keeps its name when others
# are parted from it.
def views_of(forms):
    kinds = {}
    views = []
    for number, form in enumerate(forms):
        views.append((kinds.setdefault(form[0], number), form[1], form[2]))
    return views


# Longer words only ever part kinds, make boxes needed, and, where neither
# happens, leave fewer ways that mean the same: when all three stay, no longer
# word tells more.
def size_of(views, ways):
    kinds = len(set([view[0] for view in views]))
    boxes = sum([len(view[1]) for view in views])
    return (kinds, boxes, sum([len(ways.groups[view[2]]) for view in views]))


# `found` has, for each state of the new machine, a state of its kind and the
# kind's boxes in the new order; `numbers` has the new number of each kind.
def rebuilt(machine, views, ways):
    found = [(0, ())]
    numbers = {views[0][0]: 0}
    built = []
    while len(built) < len(found):
        here = found[len(built)]
        state = machine[here[0]]
        kept = [views[here[0]][1][box] for box in here[1]]
        # The number of boxes stands for the letter that is read.
        held = kept + [state[1]]
        moves = []
        for read in held:
            target = state[2][read][0]
            letters = letters_behind(state[2][read], views[target], held)
            if views[target][0] not in numbers:
                numbers[views[target][0]] = len(found)
                found.append((target, by_letters(letters)))
            number = numbers[views[target][0]]
            moves.append((number, least_sources(letters, found[number][1], ways.groups[views[target][2]])))
        built.append((state[0], len(kept), moves))
    return built


def letters_behind(move, view, held):
    return [held.index(move[1][box]) for box in view[1]]


# The order of a kind's boxes in which their letters rise.
def by_letters(letters):
    return tuple([letters.index(letter) for letter in sorted(letters)])


def least_sources(letters, order, group):
    return min([tuple([letters[way[box]] for box in order]) for way in group])
