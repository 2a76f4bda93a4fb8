"""The ways to call the boxes of a state, and which of them mean the same.

A way is a tuple: its box j has the letter of box way[j]. A group is a sorted tuple of all ways that mean the same for
a kind of state. A result tells what is behind a letter: a kind, the number of its group, and the letters of its
boxes, called by the least of the ways that mean the same. A shape is a tuple of results: one for each box, and one for
a letter that is in none and that is called like the number of boxes.
"""


# Keeps the groups that came up, and the callings that were found, so that each
# one is looked for once.
class Ways:
    def __init__(self):
        self.groups = []
        self.trees = []
        self.circles = []
        self.numbers = {}
        self.callings = {}

    def group_number(self, group):
        if group not in self.numbers:
            self.numbers[group] = len(self.groups)
            self.groups.append(group)
            self.trees.append(tree_of(group))
            self.circles.append(circles_of(group))
        return self.numbers[group]

    # No letter stands twice, so the least one at each place leaves just one
    # branch to go on by.
    def least_letters(self, number, letters):
        branch = self.trees[number]
        called = []
        while len(called) < len(letters):
            letter = min([letters[box] for box in branch])
            called.append(letter)
            branch = branch[letters.index(letter)]
        return tuple(called)

    # The way to call the boxes of a shape that is the same however they were
    # called before, and the number of the group of those that do as well.
    def calling(self, shape):
        pattern = ranked(shape)
        if pattern not in self.callings:
            self.callings[pattern] = self.found_calling(pattern)
        return self.callings[pattern]

    def found_calling(self, pattern):
        best = None
        orders = []
        for order in orders_by([self.mark(pattern, box) for box in range(len(pattern) - 1)]):
            shape = self.renamed(pattern, order)
            if best is None or shape < best:
                best = shape
                orders = []
            if shape == best:
                orders.append(order)
        first = orders[0]
        group = sorted([tuple([first.index(box) for box in order]) for order in orders])
        return (first, self.group_number(tuple(group)))

    # What can be said of a box without calling it: boxes with other marks need
    # not be tried in its place.
    def mark(self, shape, box):
        places = [(result[0], self.circle(result, box)) for result in shape]
        return (places[box], places[-1], tuple(sorted(places)))

    # Where a letter stands in a result, as far as ways that mean the same
    # leave it there; -1 if it does not stand there.
    def circle(self, result, letter):
        if letter not in result[2]:
            return -1
        return self.circles[result[1]][result[2].index(letter)]

    # The shape of the boxes `kept` alone, called 0, 1, 2 .. in this order.
    def renamed(self, shape, kept):
        last = len(shape) - 1
        names = {last: len(kept)}
        for name, box in enumerate(kept):
            names[box] = name
        return tuple([self.renamed_result(shape[read], names) for read in kept + (last,)])

    def renamed_result(self, result, names):
        letters = tuple([names[letter] for letter in result[2]])
        return (result[0], result[1], self.least_letters(result[1], letters))


def tree_of(group):
    tree = {}
    for way in group:
        branch = tree
        for box in way:
            branch = branch.setdefault(box, {})
    return tree


# For each box the least of those that stand in its place by some way.
def circles_of(group):
    return [min([way[box] for way in group]) for box in range(len(group[0]))]


# Only which kinds are the same, and their order, matters for a calling: so
# shapes of other kinds share one.
def ranked(shape):
    kinds = sorted(set([result[0] for result in shape]))
    return tuple([(kinds.index(result[0]), result[1], result[2]) for result in shape])


# All orders of the boxes in which their marks rise.
def orders_by(marks):
    orders = [()]
    for mark in sorted(marks):
        longer = []
        for order in orders:
            for box in range(len(marks)):
                if marks[box] == mark and box not in order:
                    longer.append(order + (box,))
        orders = longer
    return orders
