"""Words watched as they come, letter by letter."""

from boxword.joining import turned
from boxword.machines import gone_on, look_machine
from boxword.wording import steps_left


class Watcher:
    def __init__(self, machine):
        look_machine(machine)
        # Who handed the machine in may change its lists later on.
        self.machine = [(state[0], state[1], list(state[2])) for state in machine]
        self.tellings = tellings_of(machine)
        self.place = (0, ())

    def told(self):
        return self.tellings[self.place[0]]

    def come(self, letter):
        self.place = gone_on(self.machine, self.place, letter)
        return self.told()

    def kept(self):
        return sorted(self.place[1])


# For each state what is told there. Each move of a state can be gone, so what
# the boxes have does not matter for what can come.
def tellings_of(machine):
    to_good = steps_left(machine)
    to_bad = steps_left(turned(machine))
    return [(state[0], outlook(good, bad)) for state, good, bad in zip(machine, to_good, to_bad)]


def outlook(to_good, to_bad):
    if to_bad is None:
        return "always"
    if to_good is None:
        return "never"
    return "open"
