"""The texts of machines."""

from ramet.errors import BadText
from ramet.machine import MOST_INPUTS, MOST_OUTPUTS, MOST_STATES, Machine
from ramet.words import all_words


def text_of(machine):
    """Return the text of a machine."""
    lines = [f"machine {machine.states} {machine.inputs} {machine.outputs}\n"]
    rows = machine.table()
    labels = _labels(machine.states, machine.inputs)
    for label, (state, word) in zip(labels, rows):
        lines.append(f"{label} {state} {_bits(word)}\n")
    return "".join(lines)


def _labels(states, inputs):
    """Return the beginnings of the lines of the rows, in order, up to the arrow."""
    words = all_words(inputs)
    return [f"{state} {_bits(word)} ->" for state in range(states) for word in words]


def _bits(word):
    """Return the text of a word."""
    if len(word) == 0:
        return "-"
    return "".join([str(bit) for bit in word])


def machine_of(text):
    """Return the machine whose text this is, or raise BadText."""
    pieces = text.split("\n")
    # What stands behind the last newline is no line yet, and has to be empty.
    lines = pieces[:-1]
    sizes = _read_sizes(lines[0]) if len(lines) > 0 else None
    if sizes is None:
        raise BadText(1)
    states, inputs, outputs = sizes
    rows = []
    for label in _labels(states, inputs):
        at = len(rows) + 1
        row = _read_row(lines[at], label, states, outputs) if at < len(lines) else None
        if row is None:
            raise BadText(at + 1)
        rows.append(row)
    if len(lines) > len(rows) + 1 or pieces[-1] != "":
        raise BadText(len(rows) + 2)
    return Machine(states, inputs, outputs, rows)


def _read_sizes(line):
    """Return the three numbers of a first line, or None if it is none."""
    words = line.split(" ")
    if len(words) != 4 or words[0] != "machine":
        return None
    states = _number(words[1], 1, MOST_STATES)
    inputs = _number(words[2], 0, MOST_INPUTS)
    outputs = _number(words[3], 1, MOST_OUTPUTS)
    if states is None or inputs is None or outputs is None:
        return None
    return (states, inputs, outputs)


def _read_row(line, label, states, outputs):
    """Return the row of a line that must have this label, or None if it is no such line."""
    if not line.startswith(label + " "):
        return None
    words = line[len(label) + 1:].split(" ")
    if len(words) != 2:
        return None
    state = _number(words[0], 0, states - 1)
    if state is None:
        return None
    for word in all_words(outputs):
        if _bits(word) == words[1]:
            return (state, word)
    return None


def _number(text, least, most):
    """Return the number from least to most with this text, or None if there is none."""
    for number in range(least, most + 1):
        if str(number) == text:
            return number
    return None
