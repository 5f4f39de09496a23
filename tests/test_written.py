"""3.4, 3.5, and what 3.10 says of the text."""

import itertools
import random
import unittest

from ramet.errors import BadText
from ramet.machine import Machine
from ramet.written import machine_of, text_of

from tests.test_machine import ODD, random_machine, random_rows

ODD_TEXT = "machine 2 1 1\n0 0 -> 0 0\n0 1 -> 1 1\n1 0 -> 1 1\n1 1 -> 0 0\n"


def expected_text(machine):
    lines = [f"machine {machine.states} {machine.inputs} {machine.outputs}"]
    rows = machine.table()
    words = list(itertools.product("01", repeat=machine.inputs))
    for k, (after, answer) in enumerate(rows):
        label = "".join(words[k % len(words)]) or "-"
        lines.append(f"{k // len(words)} {label} -> {after} " + "".join(map(str, answer)))
    return "\n".join(lines) + "\n"


def row_lines(states, inputs, outputs, at):
    """All lines that may stand for a row in the text of a machine with these numbers."""
    words = ["".join(bits) or "-" for bits in itertools.product("01", repeat=inputs)]
    answers = ["".join(bits) for bits in itertools.product("01", repeat=outputs)]
    label = f"{at // len(words)} {words[at % len(words)]} ->"
    return [f"{label} {after} {answer}" for after in range(states) for answer in answers]


def wrong_line(text):
    """The number of the line that is wrong in a text, or None: found line by line from 3.5."""
    pieces = text.split("\n")
    whole, rest = pieces[:-1], pieces[-1]
    heads = {f"machine {s} {i} {o}": (s, i, o) for s in range(1, 9) for i in range(4) for o in range(1, 4)}
    if not whole or whole[0] not in heads:
        return 1
    states, inputs, outputs = heads[whole[0]]
    many = states * 2 ** inputs
    for at in range(many):
        if at + 1 >= len(whole) or whole[at + 1] not in row_lines(states, inputs, outputs, at):
            return at + 2
    if len(whole) > many + 1 or rest:
        return many + 2
    return None


class TextTest(unittest.TestCase):
    def test_example(self):
        self.assertEqual(text_of(Machine(2, 1, 1, ODD)), ODD_TEXT)
        self.assertEqual(machine_of(ODD_TEXT).table(), ODD)

    def test_by_hand(self):
        self.assertEqual(text_of(Machine(1, 0, 1, [(0, (1,))])), "machine 1 0 1\n0 - -> 0 1\n")
        text = text_of(Machine(2, 0, 3, [(1, (1, 0, 0)), (0, (0, 1, 1))]))
        self.assertEqual(text, "machine 2 0 3\n0 - -> 1 100\n1 - -> 0 011\n")
        text = text_of(Machine(1, 2, 2, [(0, (0, 0)), (0, (0, 1)), (0, (1, 0)), (0, (1, 1))]))
        self.assertEqual(text, "machine 1 2 2\n0 00 -> 0 00\n0 01 -> 0 01\n0 10 -> 0 10\n0 11 -> 0 11\n")

    def test_letter_by_letter_there_and_back(self):
        rng = random.Random(61)
        for states in range(1, 9):
            for inputs in range(4):
                for outputs in range(1, 4):
                    machine = Machine(states, inputs, outputs, random_rows(rng, states, inputs, outputs))
                    text = text_of(machine)
                    self.assertEqual(text, expected_text(machine))
                    back = machine_of(text)
                    self.assertIsInstance(back, Machine)
                    self.assertEqual((back.states, back.inputs, back.outputs), (states, inputs, outputs))
                    self.assertEqual(back.table(), machine.table())
                    self.assertEqual(text_of(back), text)


class BadTextTest(unittest.TestCase):
    def refuses(self, text, line):
        with self.assertRaises(BadText, msg=text) as caught:
            machine_of(text)
        self.assertEqual(caught.exception.line, line, text)

    def judges(self, text):
        """The text is refused with the right line, or it is the text of a machine."""
        line = wrong_line(text)
        if line is None:
            self.assertEqual(text_of(machine_of(text)), text)
        else:
            self.refuses(text, line)

    def test_empty_and_cut(self):
        self.refuses("", 1)
        self.refuses("machine 2 1 1", 1)
        self.refuses("machine 2 1 1\n", 2)
        for length in range(len(ODD_TEXT)):
            self.refuses(ODD_TEXT[:length], ODD_TEXT[:length].count("\n") + 1)

    def test_no_last_newline(self):
        self.refuses(ODD_TEXT[:-1], 5)
        self.refuses("machine 1 0 1\n0 - -> 0 1", 2)

    def test_lines_too_many(self):
        for more in ("\n", "x", "0", "x\n", "1 1 -> 0 0\n", "machine 2 1 1\n", " ", "\n\n", "a\nb\nc\n", "\nx"):
            self.refuses(ODD_TEXT + more, 6)
        self.refuses(ODD_TEXT + ODD_TEXT, 6)

    def test_first_lines(self):
        rows = ODD_TEXT[len("machine 2 1 1\n"):]
        for first in (
            "", " ", "machine", "machine 2 1", "machine 2 1 1 1", "Machine 2 1 1", "machines 2 1 1", " machine 2 1 1",
            "machine 2 1 1 ", "machine  2 1 1", "machine 2  1 1", "machine\t2 1 1", "machine 02 1 1", "machine +2 1 1",
            "machine 2 01 1", "machine 2 1 01", "machine 0 1 1", "machine 9 1 1", "machine 10 1 1", "machine 2 4 1",
            "machine 2 -1 1", "machine 2 1 0", "machine 2 1 4", "machine two 1 1", "machine 2 1 1\r", "machine 2.0 1 1",
            "machine 12 1 1", "machine 2 12 1", "machine 2 1 12", "machine 2 1 ", "machine  1 1", "machine 2 \u0661 1",
            "machine \u00b2 1 1", "2 1 1", "machine 2 1 1 -", "machine 2,1,1", "machine 2 1 1;",
        ):
            self.refuses(first + "\n" + rows, 1)

    def test_other_numbers_in_the_first_line(self):
        rows = ODD_TEXT[len("machine 2 1 1\n"):]
        self.refuses("machine 1 1 1\n" + rows, 3)
        self.refuses("machine 3 1 1\n" + rows, 6)
        self.refuses("machine 2 0 1\n" + rows, 2)
        self.refuses("machine 2 2 1\n" + rows, 2)
        self.refuses("machine 2 1 2\n" + rows, 2)
        for numbers in itertools.product(range(10), range(5), range(5)):
            self.judges("machine {} {} {}\n".format(*numbers) + rows)

    def test_rows(self):
        lines = ODD_TEXT.split("\n")
        for at in range(1, 5):
            state, word, _, after, answer = lines[at].split(" ")
            for line in (
                "", " ", f"{state} {word} -> {after}", f"{state} {word} -> {after} ", f"{state} {word} -> {after} 2",
                f"{state} {word} -> 2 {answer}", f"{state} {word} -> -1 {answer}", f"{state} {word} -> 00 {answer}",
                f"{state} {word} -> 01 {answer}", f"{state} {word} -> +1 {answer}", f"{state} {word} > {after} {answer}",
                f"{state} {word} - > {after} {answer}", f"{state} {word}  -> {after} {answer}", f"2 {word} -> 0 0",
                f" {state} {word} -> {after} {answer}", f"{state} {word} -> {after} {answer} ", f"{state} - -> 0 0",
                f"{state} {word} -> {after} {answer}{answer}", f"{state} {word} -> {after} {answer} 0", f"{state}",
                f"{state} {word}{word} -> {after} {answer}", f"0{state} {word} -> {after} {answer}", f"{state} {word} ->",
                f"{state} {word} ->  {after} {answer}", f"{state} {word} -> {after}  {answer}", f"{state} {word} -> 0 -",
                f"{state} {word} -> {after} {answer}\r", f"{state}\t{word} -> {after} {answer}", f"{state} {word} -> \u0661 0",
                f"{state} {word} -> {after} \u0660", f"{state} {word} ->{after} {answer}", f"{state} 2 -> 0 0",
            ):
                changed = lines[:at] + [line] + lines[at + 1:]
                self.refuses("\n".join(changed), at + 1)

    def test_the_first_wrong_line_counts(self):
        lines = ODD_TEXT.split("\n")
        for first in range(5):
            for second in range(first + 1, 5):
                changed = list(lines)
                changed[first] = changed[second] = "nonsense"
                self.refuses("\n".join(changed), first + 1)

    def texts(self):
        rng = random.Random(62)
        yield ODD_TEXT
        for inputs, outputs in ((0, 1), (0, 3), (1, 2), (2, 1)):
            yield text_of(random_machine(rng, inputs, outputs))

    def test_a_character_left_out_doubled_or_replaced(self):
        for text in self.texts():
            for at in range(len(text)):
                self.judges(text[:at] + text[at + 1:])
                self.judges(text[:at] + text[at] + text[at:])
                for other in "01279- >x\n\r\tm":
                    self.judges(text[:at] + other + text[at + 1:])
                    self.judges(text[:at] + other + text[at:])

    def test_lines_exchanged_left_out_or_added(self):
        for text in self.texts():
            lines = text.split("\n")[:-1]
            for first in range(len(lines)):
                self.judges("".join(line + "\n" for line in lines[:first] + lines[first + 1:]))
                for second in range(len(lines)):
                    changed = list(lines)
                    changed[first], changed[second] = changed[second], changed[first]
                    self.judges("".join(line + "\n" for line in changed))
                    changed = lines[:first] + [lines[second]] + lines[first:]
                    self.judges("".join(line + "\n" for line in changed))

    def test_cut_anywhere(self):
        for text in self.texts():
            for length in range(len(text)):
                self.refuses(text[:length], text[:length].count("\n") + 1)

    def test_other_line_ends(self):
        self.refuses(ODD_TEXT.replace("\n", "\r\n"), 1)
        self.refuses(ODD_TEXT.replace("\n", "\r"), 1)
        self.refuses(ODD_TEXT.replace("\n", "\x0b"), 1)
        self.refuses(ODD_TEXT.replace("\n", "\x0c", 2), 1)
        self.refuses(ODD_TEXT.replace("1 1 -> 0 0\n", "1 1 -> 0 0\u2028"), 5)


if __name__ == "__main__":
    unittest.main()
