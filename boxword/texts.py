"""Machines written as texts, and read again."""

from boxword.errors import BadMachine, BadText
from boxword.machines import look_machine


def written(machine):
    look_machine(machine)
    return "\n".join([written_state(state) for state in machine])


def written_state(state):
    good = "yes" if state[0] else "no"
    return "; ".join([good] + [written_move(move) for move in state[2]])


def written_move(move):
    return " ".join([str(number) for number in (move[0],) + move[1]])


# On the way a text that is written otherwise may be read too, one with noughts
# ahead of a number or with another word in the place of no: what was read is
# written again, so that in the end just the very text of a machine passes.
def read(text):
    machine = [read_state(row) for row in text.split("\n")]
    try:
        again = written(machine)
    except BadMachine:
        raise BadText("the rows are not those of a machine") from None
    if again != text:
        raise BadText("a machine is written otherwise")
    return machine


def read_state(row):
    parts = row.split("; ")
    moves = [read_move(part) for part in parts[1:]]
    return (parts[0] == "yes", len(moves) - 1, moves)


def read_move(part):
    numbers = [read_number(some) for some in part.split(" ")]
    return (numbers[0], tuple(numbers[1:]))


def read_number(part):
    try:
        return int(part)
    except ValueError:
        raise BadText("a number is asked for") from None
