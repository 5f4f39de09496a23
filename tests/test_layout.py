"""4.9 to 4.14: the layout of a machine."""

import itertools
import random
import unittest

from ramet.kinds import written_number
from ramet.layout import Layout, lay_out
from ramet.machine import Machine
from ramet.plane import plane, state_bits
from ramet.space import is_pattern

from tests.test_machine import ODD, random_machine, random_rows

SIGNS = {
    ">": ("wire", 0, 0), "^": ("wire", 1, 0), "<": ("wire", 2, 0), "v": ("wire", 3, 0), "0": ("wire", 3, 8),
    "n": ("not", 3, 0), "f": ("fork", 3, 0, 0, 0), "F": ("fork", 0, 0, 0, 0), "x": ("cross", 0, 1, 0, 0),
    "a": ("and", 0, 0, 0, 0), "o": ("or", 3, 1, 0, 0),
}

# Machines, the north-west place of the picture, in places, out places, and the picture.
PICTURES = (
    (Machine(1, 0, 1, [(0, (1,))]), (-1, -2), (), ((5, 4),), (
        ">v.....",
        "^0.....",
        "^fn..>v",
        "^v>>>^v",
        "^fn>v>o",
        "^>aFx^v",
        "^<<<<.v",
    )),
    (Machine(1, 0, 1, [(0, (0,))]), (-1, -2), (), ((5, 2),), (
        ">v.....",
        "^0.....",
        "^fn>v>v",
        "^>aFx^v",
        "^<<<<.v",
    )),
    (Machine(1, 1, 1, [(0, (0,)), (0, (1,))]), (0, -2), ((0, -2),), ((3, 4),), (
        "v...",
        "v...",
        "fv>v",
        "v>^v",
        "fn>o",
        ">a^v",
        "...v",
    )),
    (Machine(2, 0, 1, [(1, (0,)), (0, (1,))]), (-1, -2), (), ((5, 6),), (
        ">v.....",
        "^0.....",
        "^fn>v..",
        "^v>^v..",
        "^fv.v>v",
        "^v>>x^v",
        "^fn>o>o",
        "^>aFx^v",
        "^<<<<.v",
    )),
    (Machine(2, 1, 1, ODD), (-1, -3), ((0, -3),), ((7, 6),), (
        ".v.......",
        ">x>v.....",
        "^v.0.....",
        "^fvfn>v>v",
        "^v>xaFx^v",
        "^fnfv>o>o",
        "^v>xaFx^v",
        "^fn>v>o>o",
        "^>a>aFx^v",
        "^<<<<<<.v",
    )),
    (Machine(3, 2, 2, [
        (0, (0, 0)), (0, (0, 0)), (0, (0, 0)), (1, (0, 1)), (0, (0, 0)), (0, (0, 0)), (2, (0, 0)), (0, (0, 0)),
        (0, (0, 0)), (2, (1, 0)), (0, (0, 0)), (0, (0, 0)),
    ]), (-2, -4), ((0, -4), (2, -4)), ((13, 8), (15, 8)), (
        "..v.v.............",
        ">>x>x>>>v.........",
        "^>x>x>v.v.........",
        "^^v.v.0.0.........",
        "^^fvfvfnfn..>v..>v",
        "^^v>xaxaxa>>Fx>>^v",
        "^^fvfnfnfv>v.v...v",
        "^^v>xaxaxa^v.v...v",
        "^^fnfvfvfn>o.v>v.v",
        "^^v>xaxaxaFx>x^v.v",
        "^^fn>v>v>v>o>o>o>o",
        "^^>a>a>a>aFxFxFx^v",
        "^^<<<<<<<<<<.v.v.v",
        "^<<<<<<<<<<<<<....",
    )),
)


def drawn(corner, lines):
    x0, y0 = corner
    return {
        (x0 + x, y0 + y): SIGNS[sign] for y, line in enumerate(lines) for x, sign in enumerate(line) if sign != "."
    }


class Expected:
    """The layout as 4.9 to 4.13 tell it, place by place: `at` gives the sign of a place."""

    def __init__(self, machine):
        self.terms = [(list(literals), list(sums)) for literals, sums in plane(machine)]
        self.ins, self.bits = machine.inputs, state_bits(machine)
        if self.ins == 0 and self.bits == 0:
            self.bits = 1
            self.terms = [([0], [0] + sums) for _, sums in self.terms]
        self.literals, self.sums = self.ins + self.bits, self.bits + machine.outputs
        self.rows = len(self.terms) + 1
        self.width = 2 * (self.literals + self.sums)

    def at(self, x, y):
        if 0 <= y < 2 * self.rows and 0 <= x < self.width:
            part = 2 * (y % 2) + x % 2
            if x < 2 * self.literals:
                return self.literal(y // 2, x // 2)[part]
            return self.sum(y // 2, x // 2 - self.literals)[part]
        signs = [self.out_sign(x, y), self.in_sign(x, y)] + [self.state_sign(s, x, y) for s in range(self.bits)]
        signs = [sign for sign in signs if sign != "."]
        return "x" if signs == ["x", ">"] else signs[0] if signs else "."

    def literal(self, row, i):
        if row == self.rows - 1:
            return "fn>a" if i == 0 else ">v>a"
        second = "v" if self.terms[row][0][i] else "n"
        return "f" + second + ("v>" if i == 0 else "xa")

    def sets(self, row, j):
        return row == self.rows - 1 or self.terms[row][1][j] == 1

    def sum(self, row, j):
        begun = any(self.sets(before, j) for before in range(row))
        goes_on = any(self.sets(row, later) for later in range(j + 1, self.sums))
        if self.sets(row, j):
            return ">" + ("o" if begun else "v") + ("Fx" if goes_on else "^v")
        if goes_on:
            return "." + ("v" if begun else ".") + ">" + ("x" if begun else ">")
        return ".v.v" if begun else "...."

    def out_sign(self, x, y):
        columns = [2 * self.literals + 2 * j + 1 for j in range(self.bits, self.sums)]
        return "v" if y == 2 * self.rows and x in columns else "."

    def in_sign(self, x, y):
        if x % 2 or not 0 <= x < 2 * self.ins or not -2 - self.bits <= y <= -1:
            return "."
        return "x" if -2 - (self.bits - 1) <= y <= -2 else "v"

    def state_sign(self, s, x, y):
        c, low, into = 2 * self.literals + 2 * s + 1, 2 * self.rows + s, 2 * (self.ins + s)
        if x == c and 2 * self.rows <= y <= low - 1:
            return "v"
        if y == low and -s <= x <= c:
            return "<"
        if x == -1 - s and -1 - s <= y <= low:
            return "^"
        if y == -2 - s and -1 - s <= x <= into - 1:
            return ">"
        if x == into and -2 - s <= y <= -2:
            return "v"
        return "0" if (x, y) == (into, -1) else "."

    def pattern(self):
        xs, ys = range(-10, self.width + 10), range(-12, 2 * self.rows + 12)
        signs = {(x, y): self.at(x, y) for x, y in itertools.product(xs, ys)}
        return {place: SIGNS[sign] for place, sign in signs.items() if sign != "."}

    def in_places(self):
        return tuple((2 * i, -2 - self.bits) for i in range(self.ins))

    def out_places(self):
        return tuple((2 * self.literals + 2 * j + 1, 2 * self.rows) for j in range(self.bits, self.sums))


class LayoutTest(unittest.TestCase):
    def check(self, machine, pattern, ins, outs):
        got = lay_out(machine)
        self.assertIsInstance(got, Layout)
        self.assertEqual(got.pattern, pattern)
        self.assertEqual(got.ins, ins)
        self.assertEqual(got.outs, outs)
        self.assertTrue(is_pattern(got.pattern))
        for places in (got.ins, got.outs):
            self.assertIsInstance(places, tuple)
            for place in places:
                self.assertIsInstance(place, tuple)
                self.assertEqual(got.pattern[place], ("wire", 3, 0))
        for state in got.pattern.values():
            self.assertTrue(0 < written_number(state) <= 48)

    def test_pictures(self):
        for machine, corner, ins, outs, lines in PICTURES:
            self.check(machine, drawn(corner, lines), ins, outs)

    def test_each_shape(self):
        rng = random.Random(81)
        for states in (1, 2, 3, 4, 5, 8):
            for inputs in range(4):
                for outputs in (1, 2, 3):
                    machine = Machine(states, inputs, outputs, random_rows(rng, states, inputs, outputs))
                    expected = Expected(machine)
                    self.check(machine, expected.pattern(), expected.in_places(), expected.out_places())

    def test_rows_whose_sums_are_all_0(self):
        for states in (1, 2, 4, 5):
            for inputs in range(3):
                rows = [(0, (0, 0))] * (states << inputs)
                machine = Machine(states, inputs, 2, rows)
                expected = Expected(machine)
                self.assertEqual(expected.rows, 1)
                self.check(machine, expected.pattern(), expected.in_places(), expected.out_places())
                rows = rows[:-1] + [(states - 1, (0, 1))]
                machine = Machine(states, inputs, 2, rows)
                expected = Expected(machine)
                self.assertEqual(expected.rows, 2)
                self.check(machine, expected.pattern(), expected.in_places(), expected.out_places())

    def test_a_machine_without_literals(self):
        for outputs in (1, 2, 3):
            for word in itertools.product((0, 1), repeat=outputs):
                machine = Machine(1, 0, outputs, [(0, word)])
                expected = Expected(machine)
                self.assertEqual(expected.literals, 1)
                self.check(machine, expected.pattern(), (), expected.out_places())
                self.assertEqual(lay_out(machine).pattern[0, -1], ("wire", 3, 8))

    def test_two_layouts_do_not_disturb_each_other(self):
        rng = random.Random(82)
        first, second = random_machine(rng, 2, 2), random_machine(rng, 1, 3)
        wanted = [Expected(first).pattern(), Expected(second).pattern()]
        one, other, again = lay_out(first), lay_out(second), lay_out(first)
        self.assertEqual([one.pattern, other.pattern, again.pattern], wanted + wanted[:1])
        one.pattern.clear()
        one.pattern[0, 0] = ("fade",)
        self.assertEqual([other.pattern, again.pattern], [wanted[1], wanted[0]])
        self.assertEqual(lay_out(first).pattern, wanted[0])

    def test_the_machine_stays(self):
        machine = Machine(2, 1, 1, ODD)
        lay_out(machine)
        self.assertEqual(machine.table(), ODD)


if __name__ == "__main__":
    unittest.main()
