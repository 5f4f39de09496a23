"""5.10 to 5.13, and what 5.14 says of descriptions."""

import random
import unittest

from ramet import errors
from ramet.describe import describe, times
from ramet.errors import BadTape, InTheWay, NoRoom, NotWritten
from ramet.kinds import DIGIT, FORTH, LEFT, RIGHT, WRITE, written_state
from ramet.tape import is_tape, tape_line
from ramet.walker import meaning

from tests.walks import Walk, state_of_number


def wires(places, number=1):
    return {place: state_of_number(number) for place in places}


def expected_times(command, n):
    if n > 255:
        return expected_times(command, 255) + expected_times(command, n - 255)
    digits = () if n == 1 else (DIGIT + n,) if n < 16 else (DIGIT + n // 16, DIGIT + n % 16)
    return digits + (command,)


def taken_together(values):
    """Pairs (value, how often) of the equal neighbours in a list."""
    groups = []
    for value in values:
        if groups and groups[-1][0] == value:
            groups[-1][1] += 1
        else:
            groups.append([value, 1])
    return groups


def expected_tape(pattern):
    """The tape of 5.12, row by row."""
    if not pattern:
        return (6, 5, 7)
    numbers = {state_of_number(number): number for number in range(73)}
    top = min(y for _, y in pattern)
    tape = (6,) + expected_times(FORTH, -top)
    plain = []
    for y in list(range(top, 0)) + [None]:
        row = {x: numbers[state] for (x, line), state in pattern.items() if line == y}
        middle = row.get(0, 0)
        if y is not None and set(row) <= {0}:
            plain.append(middle)
            continue
        for number, many in taken_together(plain):
            tape += expected_times(WRITE + number, many)
        plain = []
        if y is None:
            break
        west, east = min(0, min(row)), max(0, max(row))
        for turn, back, places in ((LEFT, RIGHT, range(west, 0)), (RIGHT, LEFT, range(east, 0, -1))):
            if len(places):
                tape += (turn,) + expected_times(FORTH, len(places))
                for number, many in taken_together([row.get(x, 0) for x in places]):
                    tape += expected_times(WRITE + number, many)
                tape += (back,)
        tape += (WRITE + middle,)
    return tape + (5, 7)


class TimesTest(unittest.TestCase):
    def test_by_hand(self):
        for command in (FORTH, WRITE, WRITE + 72):
            for n, digits in (
                (1, ()), (2, (2,)), (9, (9,)), (15, (15,)), (16, (1, 0)), (17, (1, 1)), (32, (2, 0)), (100, (6, 4)),
                (254, (15, 14)), (255, (15, 15)),
            ):
                self.assertEqual(times(command, n), tuple(DIGIT + digit for digit in digits) + (command,))
            most = (DIGIT + 15, DIGIT + 15, command)
            self.assertEqual(times(command, 256), most + (command,))
            self.assertEqual(times(command, 257), most + (DIGIT + 2, command))
            self.assertEqual(times(command, 271), most + (DIGIT + 1, DIGIT, command))
            self.assertEqual(times(command, 510), most + most)
            self.assertEqual(times(command, 511), most + most + (command,))
            self.assertEqual(times(command, 765), most * 3)
            self.assertEqual(times(command, 20000), most * 78 + (DIGIT + 6, DIGIT + 14, command))

    def test_each_number(self):
        for n in range(1, 1100):
            got = times(FORTH, n)
            self.assertEqual(got, expected_times(FORTH, n))
            self.assertIsInstance(got, tuple)

    def test_a_walk_with_it(self):
        for n in (1, 2, 15, 16, 17, 199, 200):
            self.assertEqual(meaning((6,) + times(FORTH, n) + (5, 7)).place, (0, -n))


class DescribeTest(unittest.TestCase):
    def line(self, pattern):
        before = dict(pattern)
        tape = describe(pattern)
        self.assertEqual(pattern, before)
        self.assertTrue(is_tape(tape))
        self.assertEqual(tape[-2:], (5, 7))
        self.assertEqual(meaning(tape).cells, pattern)
        return tape_line(tape)

    def test_examples(self):
        self.assertEqual(self.line({}), "start stop end")
        self.assertEqual(self.line(wires([(2, -1)])), "start forth right d2 forth w1 w0 left w0 stop end")

    def test_rows_taken_together(self):
        self.assertEqual(self.line(wires([(0, -1)])), "start forth w1 stop end")
        self.assertEqual(self.line(wires([(0, -1), (0, -2)])), "start d2 forth d2 w1 stop end")
        self.assertEqual(self.line(wires([(0, -2)])), "start d2 forth w1 w0 stop end")
        self.assertEqual(self.line(wires([(0, -4), (0, -3), (0, -1)])), "start d4 forth d2 w1 w0 w1 stop end")
        self.assertEqual(self.line(wires([(0, -5)])), "start d5 forth w1 d4 w0 stop end")
        self.assertEqual(self.line(wires([(0, -200)])), "start d12 d8 forth w1 d12 d7 w0 stop end")
        self.assertEqual(self.line({(0, -2): written_state(5), (0, -1): written_state(6)}), "start d2 forth w5 w6 stop end")

    def test_rows_with_parts_are_described_alone(self):
        self.assertEqual(
            self.line(wires([(1, -2), (1, -1)])),
            "start d2 forth right forth w1 left w0 right forth w1 left w0 stop end",
        )
        self.assertEqual(
            self.line(wires([(0, -3), (0, -2), (-1, -2), (0, -1)])),
            "start d3 forth w1 left forth w1 right w1 w1 stop end",
        )
        self.assertEqual(
            self.line(wires([(1, -5)])),
            "start d5 forth right forth w1 left w0 d4 w0 stop end",
        )

    def test_west_and_east_parts(self):
        self.assertEqual(self.line(wires([(-1, -1)])), "start forth left forth w1 right w0 stop end")
        self.assertEqual(self.line(wires([(1, -1)])), "start forth right forth w1 left w0 stop end")
        self.assertEqual(
            self.line({(-2, -1): written_state(1), (3, -1): written_state(2), (0, -1): written_state(3)}),
            "start forth left d2 forth w1 w0 right right d3 forth w2 d2 w0 left w3 stop end",
        )
        self.assertEqual(
            self.line({(-1, -1): written_state(1), (-2, -1): written_state(2), (1, -1): written_state(3), (2, -1): written_state(4)}),
            "start forth left d2 forth w2 w1 right right d2 forth w4 w3 left w0 stop end",
        )
        self.assertEqual(
            self.line(wires([(-200, -1), (200, -1)])),
            "start forth left d12 d8 forth w1 d12 d7 w0 right right d12 d8 forth w1 d12 d7 w0 left w0 stop end",
        )

    def test_equal_neighbours_taken_together(self):
        self.assertEqual(self.line(wires([(1, -1), (2, -1), (3, -1)])), "start forth right d3 forth d3 w1 left w0 stop end")
        self.assertEqual(
            self.line(wires([(-5, -1), (-4, -1), (-2, -1), (0, -1)])),
            "start forth left d5 forth d2 w1 w0 w1 w0 right w1 stop end",
        )
        row = [(k, -1) for k in range(1, 201)]
        self.assertEqual(self.line(wires(row)), "start forth right d12 d8 forth d12 d8 w1 left w0 stop end")

    def test_rows_without_cells(self):
        self.assertEqual(
            self.line(wires([(1, -4), (0, -1)])),
            "start d4 forth right forth w1 left w0 d2 w0 w1 stop end",
        )

    def test_each_written_state(self):
        for number in range(1, 73):
            pattern = {(0, -2): state_of_number(number)}
            if number == 68:
                # An arm to the south looks at the trail.
                with self.assertRaises(InTheWay):
                    describe(pattern)
            else:
                self.assertEqual(self.line(pattern), f"start d2 forth w{number} w0 stop end")

    def test_random_patterns(self):
        rng = random.Random(121)
        good = 0
        for _ in range(600):
            width, height = rng.choice([0, 1, 3, 12, 60, 200]), rng.choice([1, 2, 4, 12, 60, 200])
            top = rng.choice([48, 64, 72])
            draw = [1, 1, 1, 2, rng.randint(1, top)]
            pattern = {
                (rng.randint(-width, width), -rng.randint(1, height)): state_of_number(rng.choice(draw))
                for _ in range(rng.choice([0, 1, 2, 5, 12, 30, 80]))
            }
            tape = expected_tape(pattern)
            error = "BadTape" if len(tape) > 400 else Walk(tape).error
            if error:
                with self.assertRaises(getattr(errors, error)):
                    describe(pattern)
            else:
                good += 1
                self.assertEqual(describe(pattern), tape)
                self.assertEqual(meaning(tape).cells, pattern)
        self.assertTrue(good > 300, good)

    def test_the_order_in_a_dict_does_not_matter(self):
        pattern = wires([(2, -1), (-3, -4), (0, -2), (1, -4), (-1, -1)])
        other = dict(reversed(list(pattern.items())))
        self.assertEqual(describe(pattern), describe(other))


class RefusedTest(unittest.TestCase):
    def test_not_written(self):
        for state in (
            ("wire", 0, 7), ("wire", 0, 10), ("not", 0, 8), ("fork", 0, 0, 8, 0), ("cross", 0, 0, 8, 0), ("and", 0, 0, 1, 0),
            ("or", 0, 0, 0, 2), ("join", 0, 0, 1, 0), ("reader", 0, 0, 1, 1, 0, 0), ("arm", 0, 0, 0, 0), ("arm", 0, 1, 1, 0),
            ("head", 0, 0, 0, 0), ("stretch", 0, 1), ("retreat", 0, 24, 1), ("port", 0, 0, 0), ("regrow", 0), ("fade",),
        ):
            for pattern in ({(0, -1): state}, {(0, -1): ("wire", 0, 0), (3, -2): state}, {(3, -2): state, (0, -1): ("wire", 0, 0)}):
                with self.assertRaises(NotWritten):
                    describe(pattern)

    def test_no_room(self):
        for place in ((-201, -1), (201, -1), (0, -201), (0, 0), (5, 0), (0, 1), (0, 200), (99999, -1), (-99999, -1), (0, -99999)):
            for pattern in (wires([place]), wires([(0, -1), place]), wires([place, (0, -1)])):
                with self.assertRaises(NoRoom):
                    describe(pattern)
        for place in ((-200, -1), (200, -1), (0, -200), (-200, -200), (200, -200), (0, -1)):
            self.assertEqual(meaning(describe(wires([place]))).cells, wires([place]))

    def test_the_tape_is_too_long(self):
        # One row of states that differ: six symbols beside them, and digits for the steps.
        def row(many):
            return {(k, -1): state_of_number(1 + k % 2) for k in range(1, many + 1)}

        self.assertEqual(len(describe(row(100))), 100 + 10)
        pattern = {**row(190), **{(-k, -1): state_of_number(1 + k % 2) for k in range(1, 191)}}
        self.assertEqual(len(describe(pattern)), 380 + 15)
        for more, length in ((1, 396), (5, 400)):
            longer = dict(pattern)
            for k in range(more):
                longer[-191 - k, -1] = state_of_number(1 + (k + 191) % 2)
            self.assertEqual(len(describe(longer)), length)
        for more in (6, 7, 10):
            longer = dict(pattern)
            for k in range(more):
                longer[-191 - k, -1] = state_of_number(1 + (k + 191) % 2)
            with self.assertRaises(BadTape):
                describe(longer)

    def test_what_meaning_raises(self):
        # An arm whose front is on the trail, and one in front of which a later step leads.
        for pattern in (
            {(1, -1): ("arm", 2, 1, 0, 0)}, {(-1, -1): ("arm", 0, 1, 0, 0)}, {(0, -1): ("arm", 3, 1, 0, 0)},
            {(1, -2): ("arm", 3, 1, 0, 0), (1, -1): ("wire", 0, 0)},
        ):
            with self.assertRaises(InTheWay):
                describe(pattern)
        full = wires([(x, -y) for y in range(1, 12) for x in range(-180, 181, 360)])
        self.assertEqual(meaning(describe(full)).cells, full)
        full = wires([(x, -y) for y in range(1, 13) for x in range(-180, 181, 360)])
        with self.assertRaises(NoRoom):
            describe(full)

    def test_the_order_of_the_errors(self):
        wrong = ("wire", 0, 7)
        arm = ("arm", 3, 1, 0, 0)
        long_row = {(k, -1): state_of_number(1 + k % 2) for k in range(-200, 201)}
        # Everything wrong at once; then one error after the other taken away.
        everything = {**long_row, (0, -9): wrong, (0, 5): ("wire", 0, 0), (0, -1): arm}
        with self.assertRaises(NotWritten):
            describe(everything)
        with self.assertRaises(NotWritten):
            describe(dict(reversed(list(everything.items()))))
        with self.assertRaises(NotWritten):
            describe({(0, 5): wrong})
        del everything[0, -9]
        with self.assertRaises(NoRoom):
            describe(everything)
        del everything[0, 5]
        with self.assertRaises(BadTape):
            describe(everything)
        with self.assertRaises(InTheWay):
            describe({(0, -1): arm})


if __name__ == "__main__":
    unittest.main()
