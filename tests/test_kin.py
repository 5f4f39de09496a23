"""Boxes and walls (7.2, 7.5), and what a tape tells of a machine of a family (7.3, 7.7 to 7.9)."""

import random
import unittest

from ramet import errors
from ramet.arm import done, rest_of
from ramet.body import built, parked
from ramet.describe import describe
from ramet.errors import BadTape, NotOwn, NotStill
from ramet.kin import FAR, MOST_KIN, apart, halted_cells, is_barrier, is_parent, moved_box, rest_after
from ramet.own import goods, heir
from ramet.space import union
from ramet.tape import read_tape

from tests.helpers import ITEMS, STEPS, random_state
from tests.kinfolk import NO_TAPES, REFUSED, at_corner, own_tape
from tests.walks import Walk

WIRE = ("wire", 0, 0)
WALLS = {"wire": 2, "not": 2, "fork": 3, "cross": 3, "and": 3, "or": 3}


def places_of(box):
    return {(x, y) for x in range(box[0], box[2] + 1) for y in range(box[1], box[3] + 1)}


class BoxTest(unittest.TestCase):
    def test_in_each_direction(self):
        box = (10, 20, 14, 22)
        for other, wanted in (
            # One place in common, at a corner and at each side; all of it; around it.
            ((14, 22, 17, 25), False), ((8, 18, 10, 20), False), ((12, 15, 12, 20), False), ((10, 20, 14, 22), False),
            ((11, 21, 12, 21), False), ((0, 0, 99, 99), False), ((12, 0, 12, 99), False), ((0, 21, 99, 21), False),
            # They touch at a side: east, north, west, south; at the last line or column of it only.
            ((15, 20, 16, 22), False), ((10, 18, 14, 19), False), ((8, 20, 9, 22), False), ((10, 23, 14, 25), False),
            ((15, 22, 16, 30), False), ((15, 10, 16, 20), False), ((8, 22, 9, 30), False), ((8, 10, 9, 20), False),
            ((14, 23, 20, 24), False), ((5, 23, 10, 24), False), ((14, 18, 20, 19), False), ((5, 18, 10, 19), False),
            # They touch at a corner only.
            ((15, 23, 16, 24), True), ((8, 23, 9, 24), True), ((15, 18, 16, 19), True), ((8, 18, 9, 19), True),
            # They are one place apart.
            ((16, 20, 17, 22), True), ((10, 17, 14, 18), True), ((7, 20, 8, 22), True), ((10, 24, 14, 25), True),
            ((16, 21, 16, 21), True), ((12, 18, 12, 18), True), ((8, 21, 8, 21), True), ((12, 24, 12, 24), True),
            # They are far apart.
            ((100, 20, 101, 22), True), ((10, -90, 14, -80), True), ((-100, -100, -90, -90), True),
        ):
            self.assertIs(apart(box, other), wanted, other)
            self.assertIs(apart(other, box), wanted, other)

    def test_random_boxes(self):
        rng = random.Random(701)
        for _ in range(1500):
            boxes = []
            for _ in range(2):
                x, y = rng.randint(-5, 5), rng.randint(-5, 5)
                boxes.append((x, y, x + rng.randint(0, 4), y + rng.randint(0, 4)))
            first, second = places_of(boxes[0]), places_of(boxes[1])
            near = first | {(x + dx, y + dy) for x, y in first for dx, dy in STEPS}
            self.assertIs(apart(*boxes), near.isdisjoint(second), boxes)

    def test_moved_box(self):
        self.assertEqual(moved_box((1, 2, 3, 5), 10, -20), (11, -18, 13, -15))
        self.assertEqual(moved_box((-1, -2, 3, 5), 0, 0), (-1, -2, 3, 5))

    def test_numbers(self):
        self.assertEqual((FAR, MOST_KIN), (50000, 24))


class BarrierTest(unittest.TestCase):
    def test_each_kind_empty_and_holding_something(self):
        for way in range(4):
            for sym in (0, 1, 8, 9, 96):
                self.assertIs(is_barrier(("wire", way, sym)), sym == 0)
                self.assertIs(is_barrier(("not", way, sym)), sym == 0)
                for side in range(2):
                    self.assertIs(is_barrier(("cross", way, side, sym, 0)), sym == 0)
                    self.assertIs(is_barrier(("cross", way, side, 0, sym)), sym == 0)
                    self.assertIs(is_barrier(("join", way, side, 0, sym)), sym == 0)
                    self.assertIs(is_barrier(("join", way, side, 1, sym)), sym == 0)
                    for sent in range(3 if sym else 1):
                        self.assertIs(is_barrier(("fork", way, side, sym, sent)), sym == 0)
            for side in range(2):
                for one in range(3):
                    for two in range(3):
                        self.assertIs(is_barrier(("and", way, side, one, two)), one == two == 0)
                        self.assertIs(is_barrier(("or", way, side, one, two)), one == two == 0)

    def test_all_other_kinds(self):
        rng = random.Random(702)
        for kind in set(ITEMS) - set(WALLS) - {"join"}:
            for _ in range(40):
                self.assertIs(is_barrier(random_state(rng, (kind,))), False)
        for state in (None, ("fade",), ("reader", 0, 0, 0, 0, 0, 0), ("arm", 0, 0, 0, 0), ("port", 0, 0, 0), ("head", 0, 0, 0, 0), ("regrow", 0)):
            self.assertIs(is_barrier(state), False)

    def test_random_states(self):
        rng = random.Random(703)
        for _ in range(2000):
            state = random_state(rng, tuple(ITEMS))
            wanted = state[0] in WALLS and not any(state[WALLS[state[0]]:]) or state[0] == "join" and state[4] == 0
            self.assertIs(is_barrier(state), wanted, state)


class TapeTest(unittest.TestCase):
    def test_workers_and_parents(self):
        for tape in (read_tape("start stop end"), describe({(3, -1): WIRE}), describe({(3, -1): ("wire", 0, 8)})):
            self.assertIs(is_parent(tape), False)
        for tape in (heir({}), heir({(0, 0): WIRE}), heir({(0, 0): ("wire", 0, 9)}), own_tape("d3 forth")):
            self.assertIs(is_parent(tape), True)

    def test_a_worker_that_builds_a_constructor(self):
        # The body of a constructor is still, when it stands alone: its root arm does not ask.
        tape = heir({})[:-2] + (5, 7)
        self.assertIs(is_parent(tape), False)
        self.assertEqual(rest_of(tape), union(parked(tape), built(tape)))

    def test_what_is_neither(self):
        moving = {(3, -1): ("wire", 0, 9), (4, -1): WIRE}
        with self.assertRaises(NotStill):
            is_parent(describe(moving))
        with self.assertRaises(NotStill):
            is_parent(heir(moving))
        with self.assertRaises(NotOwn):
            is_parent(describe(moving)[:-2] + (4, 7))
        for tape in (read_tape("start port end"), own_tape("d2 forth"), own_tape("d4 forth", tail="left")):
            with self.assertRaises(NotOwn):
                is_parent(tape)
        for value in NO_TAPES:
            with self.assertRaises(BadTape):
                is_parent(value)
        for line, error in REFUSED.items():
            for end in ((4, 7), (5, 7)):
                with self.assertRaises(getattr(errors, error)):
                    is_parent(read_tape(line)[:-2] + end)

    def test_free_machines(self):
        worker = describe({(3, -1): WIRE, (0, -4): ("not", 1, 0)})
        self.assertEqual(halted_cells(worker, 0), rest_of(worker))
        parent = heir({(0, 0): WIRE, (2, 3): ("not", 1, 0)})
        self.assertEqual(halted_cells(parent, 0), union(parked(parent), goods(parent)))
        for tape in (worker, parent):
            self.assertEqual(rest_after(tape, 0), done(tape))

    def test_halted_machines(self):
        for tape in (
            describe({(3, -1): WIRE, (0, -4): ("not", 1, 0), (-2, -4): WIRE, (2, -3): ("and", 0, 0, 0, 0)}),
            heir({(0, 0): WIRE, (2, 3): ("not", 1, 0)}),
        ):
            forths = [index for index, sym in enumerate(tape) if sym == 3]
            self.assertTrue(len(forths) >= 4)
            counts = []
            for halt in forths:
                written = at_corner(Walk(tape[:halt] + (5, 7)).cells, tape)
                self.assertEqual(halted_cells(tape, halt), union(parked(tape), written))
                self.assertEqual(rest_after(tape, halt), done(tape) + 6 * len(tape) + 40)
                counts.append(len(written))
            # At the first FORTH nothing has been written; afterwards there is more and more.
            self.assertEqual(counts, sorted(counts))
            self.assertEqual(counts[0], 0)
            self.assertTrue(0 < counts[-1] < len(built(tape)))

    def test_by_hand(self):
        tape = read_tape("start forth right d2 forth w1 w0 left w0 stop end")
        # M is 11, n is 28 and a is 6; the FORTHs have the indexes 1 and 4.
        self.assertEqual(halted_cells(tape, 1), parked(tape))
        self.assertEqual(halted_cells(tape, 4), parked(tape))
        self.assertEqual(rest_after(tape, 0), done(tape))
        self.assertEqual(rest_after(tape, 4), done(tape) + 66 + 40)
        again = read_tape("start forth right d2 forth w1 w0 left left d2 forth w2 w0 right w0 stop end")
        # M is 17, n is 40 and a is 9.
        self.assertEqual(halted_cells(again, 10), union(parked(again), {(11, -1): WIRE}))
        self.assertEqual(halted_cells(again, 4), parked(again))

    def test_new_dicts(self):
        for tape, halt in ((heir({}), 0), (heir({}), 2), (describe({(3, -1): WIRE}), 0), (describe({(3, -1): WIRE}), 1)):
            first = halted_cells(tape, halt)
            wanted = dict(first)
            first.clear()
            self.assertEqual(halted_cells(tape, halt), wanted)


if __name__ == "__main__":
    unittest.main()
