"""The layout of a machine: a net that computes its plane."""

from ramet.kinds import ZERO
from ramet.plane import plane, state_bits

# The empty wires have the letters that they have in the document.
E = ("wire", 0, 0)
N = ("wire", 1, 0)
W = ("wire", 2, 0)
S = ("wire", 3, 0)
NOT_SOUTH = ("not", 3, 0)
FORK_SOUTH = ("fork", 3, 0, 0, 0)
FORK_EAST = ("fork", 0, 0, 0, 0)
CROSS_EAST = ("cross", 0, 1, 0, 0)
AND_EAST = ("and", 0, 0, 0, 0)
OR_SOUTH = ("or", 3, 1, 0, 0)


class Layout:
    """A net that computes a machine, with the places at which its bits come in and go out."""

    def __init__(self, pattern, ins, outs):
        self.pattern = pattern
        self.ins = ins
        self.outs = outs


class Sizes:
    """The numbers of bits and of rows from which the places of a layout follow."""

    def __init__(self, inputs, bits, outputs, rows):
        self.inputs = inputs
        self.literals = inputs + bits
        self.sums = bits + outputs
        # The first line south of the rows.
        self.end = 2 * rows


def lay_out(machine):
    """Return the layout of a machine."""
    terms = plane(machine)
    bits = state_bits(machine)
    if machine.inputs + bits == 0:
        # A row begins with a literal; so there has to be one.
        bits = 1
        terms = [((0,), (0,) + sums) for _, sums in terms]
    sizes = Sizes(machine.inputs, bits, machine.outputs, len(terms) + 1)
    outs = [(2 * (sizes.literals + j) + 1, sizes.end) for j in range(bits, sizes.sums)]
    ins = [(2 * i, -2 - bits) for i in range(sizes.inputs)]
    drawn = _rows(terms, sizes) + [(place, S) for place in outs]
    for s in range(bits):
        drawn.extend(_state_line(s, sizes))
    # The input lines come last: where they meet a state line, their crosses are what stands there.
    for x, y in ins:
        drawn.extend(_input_line(x, y))
    return Layout({place: state for place, state in drawn}, tuple(ins), tuple(outs))


def _rows(terms, sizes):
    """Return the cells of the rows of the terms and of the zero row, as pairs (place, state)."""
    drawn = []
    begun = [False] * sizes.sums
    y = 0
    for word, sums in terms + [(None, (1,) * sizes.sums)]:
        for i in range(sizes.literals):
            field = _zero_field(i) if word is None else _literal_field(i, word[i])
            drawn.extend(_placed(field, 2 * i, y))
        for j in range(sizes.sums):
            goes_on = 1 in sums[j + 1:]
            field = _set_field(begun[j], goes_on) if sums[j] == 1 else _unset_field(begun[j], goes_on)
            drawn.extend(_placed(field, 2 * (sizes.literals + j), y))
        begun = [was or bit == 1 for was, bit in zip(begun, sums)]
        y += 2
    return drawn


def _placed(field, x, y):
    """Return the cells of a field with a place for its north-west cell."""
    places = ((x, y), (x + 1, y), (x, y + 1), (x + 1, y + 1))
    return [(place, state) for place, state in zip(places, field) if state is not None]


def _literal_field(i, bit):
    """Return the field of literal i in the row of a term that asks for a bit there."""
    asked = S if bit == 1 else NOT_SOUTH
    if i == 0:
        return (FORK_SOUTH, asked, S, E)
    return (FORK_SOUTH, asked, CROSS_EAST, AND_EAST)


def _zero_field(i):
    """Return the field of literal i in the zero row."""
    if i == 0:
        return (FORK_SOUTH, NOT_SOUTH, E, AND_EAST)
    return (E, S, E, AND_EAST)


def _set_field(begun, goes_on):
    """Return the field of a sum that its row sets."""
    joined = OR_SOUTH if begun else S
    if goes_on:
        return (E, joined, FORK_EAST, CROSS_EAST)
    return (E, joined, N, S)


def _unset_field(begun, goes_on):
    """Return the field of a sum that its row does not set."""
    passing = S if begun else None
    if goes_on:
        return (None, passing, E, CROSS_EAST if begun else E)
    return (None, passing, None, passing)


def _state_line(s, sizes):
    """Return the cells that lead from the sum of state bit s round to its literal."""
    start, end = 2 * (sizes.literals + s) + 1, 2 * (sizes.inputs + s)
    low, high, west = sizes.end + s, -2 - s, -1 - s
    drawn = [((start, y), S) for y in range(sizes.end, low)]
    drawn.extend([((x, low), W) for x in range(west + 1, start + 1)])
    drawn.extend([((west, y), N) for y in range(high + 1, low + 1)])
    drawn.extend([((x, high), E) for x in range(west, end)])
    drawn.extend([((end, y), S) for y in range(high, -1)])
    drawn.append(((end, -1), ("wire", 3, ZERO)))
    return drawn


def _input_line(x, top):
    """Return the cells of an input line from its in place down to its literal."""
    crosses = [((x, y), CROSS_EAST) for y in range(top + 1, -1)]
    return [((x, top), S)] + crosses + [((x, -1), S)]
