"""Promise 8.1, and 0.1 to 0.3 as far as they speak of boxword/texts.py."""

import random
import re
import unittest

import samples
from boxword.errors import BadMachine, BadText
from boxword.machines import look_machine
from boxword.texts import read, written

NUMBER = "(0|[1-9][0-9]{0,2})"
ROW = re.compile(f"(yes|no)(; {NUMBER}( {NUMBER})*)*")
# The signs that a text may have: all from the blank to the last one but one, and line ends.
SIGNS = [chr(number) for number in range(32, 127) if number != 37] + ["\n"]

FIRST_AGAIN = "no; 1 0\nno; 2 0; 1 0\nyes; 2 0; 1 0"
TWO_BACK = """no; 1 0
no; 3 0; 2 0 1
no; 4 1 0; 3 1; 2 1 2
no; 5 0; 2 0 1
yes; 4 1 0; 3 1; 2 1 2
yes; 5 0; 2 0 1"""
SIX_BOXES = """no; 1 0
no; 1 0; 2 0 1
no; 2 0 1; 2 0 1; 3 0 1 2
no; 3 0 1 2; 3 0 1 2; 3 0 1 2; 4 0 1 2 3
no; 4 0 1 2 3; 4 0 1 2 3; 4 0 1 2 3; 4 0 1 2 3; 5 0 1 2 3 4
no; 5 0 1 2 3 4; 5 0 1 2 3 4; 5 0 1 2 3 4; 5 0 1 2 3 4; 5 0 1 2 3 4; 6 0 1 2 3 4 5
yes; 6 0 1 2 3 4 5; 6 0 1 2 3 4 5; 6 0 1 2 3 4 5; 6 0 1 2 3 4 5; 6 0 1 2 3 4 5; 6 0 1 2 3 4 5; 6 0 1 2 3 4 5"""


def some_machines():
    some = [machine for machine, is_taken in samples.known()]
    some += [samples.keeper(0, boxes) for boxes in range(7)]
    some += [samples.ring(0, 1), samples.ring(3, 8), samples.ring(0, 400), samples.mixed(6, 400, 6)]
    return some + [samples.mixed(seed, 1 + seed % 12, seed % 7) for seed in range(100)]


def row_of(state):
    """A state in the form of a row, be it one of a machine or not."""
    good, boxes, moves = state
    return "; ".join(["yes" if good else "no"] + [" ".join(map(str, (to,) + sources)) for to, sources in moves])


def due_machine(text):
    """The machine that is written so, or None; told by the form of the rows."""
    rows = text.split("\n")
    if not all(ROW.fullmatch(row) for row in rows):
        return None
    machine = []
    for row in rows:
        head, *parts = row.split("; ")
        numbers = [tuple(map(int, part.split(" "))) for part in parts]
        machine.append((head == "yes", len(parts) - 1, [(some[0], some[1:]) for some in numbers]))
    try:
        look_machine(machine)
    except BadMachine:
        return None
    return machine


def changed_texts(text):
    """All texts with one sign put in, taken out or made another."""
    for at in range(len(text) + 1):
        for sign in SIGNS:
            yield text[:at] + sign + text[at:]
    for at in range(len(text)):
        yield text[:at] + text[at + 1:]
        for sign in SIGNS:
            yield text[:at] + sign + text[at + 1:]


def changed_by_chance(text, chance):
    at = chance.randrange(len(text) + 1)
    # Mostly signs of which rows are made, so that some texts are of a machine again.
    sign = chance.choice(["", chance.choice("0123456789 ;\n"), chance.choice(SIGNS)])
    return text[:at] + sign + text[at + chance.randrange(2):]


class TestWritten(unittest.TestCase):
    def test_one_state(self):
        self.assertEqual(written(samples.nothing()), "no; 0")
        self.assertEqual(written(samples.everything()), "yes; 0")

    def test_no_box(self):
        self.assertEqual(written(samples.ring(1, 3)), "no; 1\nyes; 2\nno; 3\nno; 1")
        self.assertEqual(written(samples.neighbours()), "no; 1 0\nno; 2; 1 1\nyes; 2")

    def test_some_boxes(self):
        self.assertEqual(written(samples.first_again()), FIRST_AGAIN)
        self.assertEqual(written(samples.two_back()), TWO_BACK)
        self.assertEqual(written(samples.keeper(0, 6)), SIX_BOXES)

    def test_sources_in_any_order(self):
        machine = samples.with_two_boxes((2, (1, 0)), (1, (0,)), (2, (2, 0)))
        self.assertEqual(written(machine), "yes; 1 0\nno; 1 0; 2 0 1\nyes; 2 1 0; 1 0; 2 2 0")

    def test_numbers_of_two_and_three_figures(self):
        self.assertEqual(
            written(samples.ring(0, 11)),
            "yes; 1\nno; 2\nno; 3\nno; 4\nno; 5\nno; 6\nno; 7\nno; 8\nno; 9\nno; 10\nno; 0")
        rows = ["yes; 1"] + [f"no; {number}" for number in range(2, 400)] + ["no; 0"]
        self.assertEqual(written(samples.ring(0, 400)), "\n".join(rows))
        self.assertEqual(written(samples.keeper(99, 2)).split("\n")[98:], [
            "no; 99", "no; 100 0", "no; 100 0; 101 0 1", "yes; 101 0 1; 101 0 1; 101 0 1",
        ])

    def test_row_by_row(self):
        for machine in some_machines():
            self.assertEqual(written(machine), "\n".join(map(row_of, machine)))

    def test_kinds(self):
        self.assertIs(type(written(samples.two_back())), str)

    def test_what_is_no_machine(self):
        for why, machine in samples.bad_machines():
            with self.subTest(why), self.assertRaises(BadMachine):
                written(machine)


class TestReadAgain(unittest.TestCase):
    def test_very_texts(self):
        self.assertEqual(read("no; 0"), samples.nothing())
        self.assertEqual(read("yes; 0"), samples.everything())
        self.assertEqual(read(FIRST_AGAIN), samples.first_again())
        self.assertEqual(read(TWO_BACK), samples.two_back())
        self.assertEqual(read(SIX_BOXES), samples.keeper(0, 6))

    def test_the_same_machine(self):
        for machine in some_machines():
            self.assertEqual(read(written(machine)), machine)

    def test_kinds(self):
        machine = read(TWO_BACK)
        self.assertIs(type(machine), list)
        for state in machine:
            self.assertIs(type(state), tuple)
            self.assertEqual([type(some) for some in state], [bool, int, list])
            for move in state[2]:
                self.assertIs(type(move), tuple)
                self.assertEqual([type(some) for some in move], [int, tuple])
                self.assertEqual({type(source) for source in move[1]} - {int}, set())


class TestTextsOfNoMachine(unittest.TestCase):
    def refused(self, *texts):
        for text in texts:
            with self.subTest(text[-60:]), self.assertRaises(BadText):
                read(text)

    def test_empty_texts_and_rows(self):
        self.refused("", " ", "\n", "\n\n", ";", "; ", "; 0", " ; 0", "\nno; 0", "no; 0\n", "no; 0\n\nno; 0")
        self.refused(FIRST_AGAIN + "\n", "\n" + FIRST_AGAIN, FIRST_AGAIN.replace("\n", "\n\n"), FIRST_AGAIN + "\n ")

    def test_blanks(self):
        self.refused(" no; 0", "no; 0 ", "no ; 0", "no;  0", "no;0", "no 0", "no; 0;", "no; 0; ", "no; ", "no;", "no ")
        self.refused(FIRST_AGAIN + " ", FIRST_AGAIN.replace("\n", " \n"), FIRST_AGAIN.replace("\n", "\n "))
        self.refused(FIRST_AGAIN.replace("1 0", "1  0"), FIRST_AGAIN.replace("; ", ";  "))
        self.refused("no; 0\t", "no;\t0", "no; 0\r", "no; 0\r\nno; 0", "no\t; 0")
        self.refused(FIRST_AGAIN.replace("; ", ";"), FIRST_AGAIN.replace("; ", " ; "), FIRST_AGAIN.replace(" ", ""))

    def test_noughts_ahead(self):
        self.refused("no; 00", "no; 000", "yes; 00", "no; 01\nno; 0", "no; 1 00\nno; 0; 0", "no; 001\nno; 0")
        self.refused(FIRST_AGAIN.replace("2", "02"), FIRST_AGAIN.replace("0", "00"), FIRST_AGAIN.replace("1", "001"))

    def test_signs_of_minus_and_plus(self):
        self.refused("no; -0", "no; +0", "no; -1", "no; +1\nno; 0", "no; - 0", "no; 1 -0\nno; 0; 0", "no; -1\nno; 0")
        self.refused(FIRST_AGAIN.replace("2", "+2"), FIRST_AGAIN.replace("2", "-2"), FIRST_AGAIN.replace("0", "-0"))

    def test_long_numbers(self):
        self.refused("no; 1000", "no; 9999", "no; 0000", "no; 999999999999999", "no; -999999999999999")
        self.refused("no; 1" + "0" * 400, "no; " + "0" * 5000, "no; " + "9" * 5000, "no; " + "1" * 100000)
        self.refused("no; 1 1000\nno; 0; 0", "no; 1 " + "9" * 5000 + "\nno; 0; 0", "no; 1_0", "no; 1_000", "no; 0_0")
        self.refused(written(samples.ring(0, 400)).replace("399", "0399"), written(samples.ring(0, 11)) + "0" * 4)

    def test_other_numbers(self):
        self.refused("no; 0x0", "no; 0b0", "no; 1e0\nno; 0", "no; 0.", "no; 0.0", "no; a", "no; one", "no; 0,")
        self.refused("no; '0'", "no; (0)", "no; 0; 0 1,", "no; 0~", "no; ~", "no; \\n", "no; 0\\nno; 0")

    def test_other_heads(self):
        self.refused("No; 0", "NO; 0", "Yes; 0", "YES; 0", "nO; 0", "yeS; 0", "y; 0", "n; 0", "true; 0", "not; 0", "0")
        self.refused("True; 0", "False; 0", "1; 0", "yesno; 0", "yes no; 0", "ye; 0", "yess; 0", "on; 0", "-; 0")
        self.refused(FIRST_AGAIN.upper(), FIRST_AGAIN.replace("y", "Y"), "0; no", "no; no", "no; yes", "no; 0; yes")

    def test_heads_alone(self):
        self.refused("yes", "no", "yes\nno", "no; 0\nno", "no\nno; 0", "no; 1\nyes")

    def test_rows_of_no_machine(self):
        self.refused("no; 1", "no; 1\nno; 2", "no; 2\nno; 0", "no; 999", "no; 400")
        self.refused(written(samples.ring(0, 400)).replace("no; 0", "no; 400"))
        self.refused("no; 1\nno; 1 0; 1 0", "no; 1 0 0\nno; 1 0; 1 0", "no; 0 0", "no; 1 0\nno; 1 0; 1")
        self.refused("no; 1 1\nno; 1 0; 1 0", "no; 1 0\nno; 1 1; 1 0", "no; 1 0\nno; 1 0; 1 2", "no; 1 9\nno; 0; 0")
        self.refused("no; 1 0\nno; 1 0; 2 0 1\nno; 2 0 0; 0; 0", "no; 1 0\nno; 1 0; 2 1 1\nno; 0; 0; 0")
        self.refused("no; 0; 0", "no; 0 0; 0 0", "no; 0 0; 0 1", "no; 1 0\nno; 1 0", "no; 1 0\nno; 1 0; 1 0; 1 0")
        self.refused("no; 1 0; 1 0\nno; 1 0; 1 0", "no; 0\nno; 0; 0 0", "no; 0\nno; 0; 0; 0; 0; 0; 0; 0; 0")

    def test_seven_boxes_and_401_rows(self):
        self.refused("\n".join(map(row_of, samples.keeper(0, 7))), "\n".join(map(row_of, samples.ring(0, 401))))
        self.refused("\n".join(["no; 0"] * 401), "\n".join(["no; 0"] * 1000), "no" + "; 0" * 100000)
        self.assertEqual(len(read("\n".join(["no; 0"] * 400))), 400)
        self.assertEqual(read("no; 0\nno" + "; 0" * 7)[1], (False, 6, [(0, ())] * 7))

    def test_what_is_no_machine(self):
        for why, machine in samples.bad_machines():
            # Numbers of boxes are not written: where these alone are wrong, the text is that of another machine.
            text = "\n".join(map(row_of, machine))
            with self.subTest(why):
                if due_machine(text) is None:
                    self.assertRaises(BadText, read, text)
                else:
                    self.assertEqual(read(text), due_machine(text))
                    self.assertEqual([state[::2] for state in read(text)], [state[::2] for state in machine])

    def test_other_signs(self):
        self.refused("no; \u0660", "no; \uff10", "no; \u00b2", "no;\u00a00", "no; 0\u2028no; 0")
        self.refused("no; 0\x0bno; 0", "no; 0\x00", "no; 0\x1cno; 0", "no; 0\x85no; 0")


class TestChangedTexts(unittest.TestCase):
    def look(self, text):
        """Whether the text is read; it must be just if it is the text of a machine."""
        due = due_machine(text)
        if due is None:
            self.assertRaises(BadText, read, text)
            return False
        self.assertEqual(read(text), due)
        self.assertEqual(written(due), text)
        return True

    def test_one_sign(self):
        for machine in (samples.nothing(), samples.first_again(), samples.keeper(0, 2), samples.ring(0, 11)):
            found = [self.look(text) for text in changed_texts(written(machine))]
            self.assertIn(False, found)
        self.assertGreater(found.count(True), 50)

    def test_two_signs(self):
        chance = random.Random(8)
        found = []
        for machine in (samples.everything(), samples.two_back(), samples.keeper(0, 3), samples.ring(2, 9)):
            for time in range(3000):
                text = changed_by_chance(changed_by_chance(written(machine), chance), chance)
                found.append(self.look(text))
        self.assertGreater(found.count(True), 200)
        self.assertGreater(found.count(False), 5000)

    def test_any_texts_of_such_signs(self):
        chance = random.Random(9)
        pieces = ["yes", "no", "; ", "; ", " ", "\n", "0", "0", "1", "2", "; 0", "; 1 0", "no; 0", "yes; 1", ";", "-"]
        found = []
        for time in range(5000):
            found.append(self.look("".join(chance.choice(pieces) for piece in range(chance.randrange(7)))))
        self.assertGreater(found.count(True), 50)

    def test_each_number_put_in_the_place_of_one(self):
        parts = TWO_BACK.split(" ")
        for at, part in enumerate(parts):
            for number in range(10):
                self.look(" ".join(parts[:at] + [re.sub("[0-9]+", str(number), part)] + parts[at + 1:]))


class TestNothingIsChangedOrKept(unittest.TestCase):
    def test_a_machine_that_was_changed_is_written_anew(self):
        machine = samples.nothing()
        self.assertEqual(written(machine), "no; 0")
        machine[0] = (True, 0, [(0, ())])
        self.assertEqual(written(machine), "yes; 0")

    def test_a_machine_that_was_read_is_a_new_one(self):
        some = read(FIRST_AGAIN)
        samples.spoil(some)
        self.assertEqual(read(FIRST_AGAIN), samples.first_again())
        other = read("no; 0\nno; 0")
        self.assertIsNot(other[0][2], other[1][2])


if __name__ == "__main__":
    unittest.main()
