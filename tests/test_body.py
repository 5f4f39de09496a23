"""The constructor's pattern (6.3 to 6.5), and the one at rest (6.8)."""

import random
import unittest

from ramet import errors
from ramet.body import body, body_box, built, machine, parked, ring, ring_of, road_of, room
from ramet.errors import BadRing, BadTape, RametError
from ramet.kinds import written_number
from ramet.space import box, is_still, union
from ramet.tape import read_tape
from ramet.walker import meaning

from tests.helpers import loaded
from tests.kinfolk import NO_TAPES, REFUSED, around_ring, at_corner, numbers_of, patterned, picture
from tests.walks import random_walk_tape

NOTHING = read_tape("start stop end")
ONE_WIRE = read_tape("start forth right d2 forth w1 w0 left w0 stop end")
WITH_PORT = read_tape("start d3 forth left d9 forth d5 w2 port end")
OF_TAPES = {"ring_of": ring_of, "machine": machine, "built": built, "road_of": road_of, "body_box": body_box, "room": room, "parked": parked}


def random_tapes(seed, many):
    """Return tapes that are not refused."""
    rng = random.Random(seed)
    tapes = []
    while len(tapes) < many:
        tape = random_walk_tape(rng, rng.choice([1, 2, 5, 20, 60]))
        try:
            meaning(tape)
            tapes.append(tape)
        except RametError:
            pass
    return tapes


class BodyTest(unittest.TestCase):
    def test_cell_by_cell(self):
        self.assertEqual(body(12), patterned(["  H", "  A", ">>R>>v", "^<J<<<"]))
        self.assertEqual(body(14), patterned(["   H", "   A", ">>>R>>v", "^<<J<<<"]))
        self.assertEqual(body(16), patterned(["   H", "   A", ">>>R>>>v", "^<<J<<<<"]))
        for n in list(range(12, 60, 2)) + [92, 500, 998, 1000]:
            self.assertEqual(body(n), patterned(picture(n)), n)
            self.assertEqual(len(body(n)), n + 2)
            self.assertEqual(box(body(n)), (0, 0, n // 2 - 1, 3))

    def test_states_as_the_document_writes_them(self):
        cells = body(92)
        self.assertEqual(cells[22, 2], ("reader", 0, 0, 0, 1, 0, 0))
        self.assertEqual(cells[22, 3], ("join", 2, 0, 0, 0))
        self.assertEqual(cells[22, 0], ("head", 1, 1, 0, 0))
        self.assertEqual(cells[22, 1], ("arm", 1, 1, 0, 0))
        self.assertEqual(cells[45, 2], ("wire", 3, 0))
        self.assertEqual(cells[0, 3], ("wire", 1, 0))
        for n in (12, 14, 92, 1000):
            for state in body(n).values():
                self.assertIn(written_number(state), range(1, 73))

    def test_ring(self):
        self.assertEqual(
            ring(12),
            ((2, 2), (3, 2), (4, 2), (5, 2), (5, 3), (4, 3), (3, 3), (2, 3), (1, 3), (0, 3), (0, 2), (1, 2)),
        )
        for n in list(range(12, 40, 2)) + [92, 1000]:
            self.assertEqual(list(ring(n)), around_ring(body(n), n))
            self.assertIsInstance(ring(n), tuple)
            self.assertEqual(len(set(ring(n))), n)

    def test_bad_rings(self):
        for n in (-1000, -92, -12, -2, -1, 0, 1, 2, 8, 9, 10, 11, 13, 15, 91, 93, 999, 1001, 1002, 1003, 2000, 10 ** 9, 10 ** 9 + 1):
            for function in (body, ring):
                with self.assertRaises(BadRing):
                    function(n)

    def test_each_call_gives_a_new_dict(self):
        for make in (lambda: body(92), lambda: machine(ONE_WIRE), lambda: parked(ONE_WIRE), lambda: built(ONE_WIRE)):
            first = make()
            wanted = dict(first)
            first.clear()
            first[7, 7] = ("fade",)
            self.assertEqual(make(), wanted)


class MachineTest(unittest.TestCase):
    def test_ring_of(self):
        self.assertEqual(ring_of(NOTHING), 12)
        self.assertEqual(ring_of(ONE_WIRE), 2 * 11 + 6)
        for tape in random_tapes(601, 30):
            self.assertEqual(ring_of(tape), 2 * len(tape) + 6)

    def test_a_small_machine_place_by_place(self):
        # M = 3: START at the place number 11 of the ring, STOP at 10, END at 9.
        wanted = patterned(["  H", "  A", ">>R>>v", "^<J<<<"])
        wanted[2, 2] = ("reader", 0, 0, 1, 1, 0, 0)
        wanted[2, 3] = ("join", 2, 0, 1, 0)
        wanted[1, 2] = ("wire", 0, 6)
        wanted[0, 2] = ("wire", 0, 5)
        wanted[0, 3] = ("wire", 1, 7)
        self.assertEqual(machine(NOTHING), wanted)

    def test_which_symbol_stands_where(self):
        longest = read_tape("start " + "left " * 397 + "stop end")
        for tape in [NOTHING, ONE_WIRE, WITH_PORT, longest] + random_tapes(602, 40):
            many, n, _, a = numbers_of(tape)
            cells, places = machine(tape), ring(n)
            wanted = body(n)
            for i, sym in enumerate(tape):
                place = places[n - 1 - i]
                self.assertEqual(wanted[place][0], "wire")
                wanted[place] = wanted[place][:2] + (sym,)
            wanted[a, 2] = ("reader", 0, 0, 1, 1, 0, 0)
            wanted[a, 3] = ("join", 2, 0, 1, 0)
            self.assertEqual(cells, wanted)
            self.assertEqual(cells, loaded(tape)[0])
            self.assertEqual(sum(1 for state in cells.values() if state[0] == "wire" and state[2] != 0), many)

    def test_parked_place_by_place(self):
        wanted = patterned(["  H", "  A", ">>R>>v", "^<J<<<"])
        wanted[2, 2] = ("reader", 0, 0, 4, 1, 2, 6)
        wanted[2, 3] = ("join", 2, 0, 1, 0)
        wanted[1, 2] = ("wire", 0, 5)
        wanted[0, 2] = ("wire", 0, 7)
        self.assertEqual(parked(NOTHING), wanted)
        for tape in [ONE_WIRE, WITH_PORT] + random_tapes(603, 40):
            many, n, _, a = numbers_of(tape)
            wanted, places = body(n), ring(n)
            wanted[a, 2] = ("reader", 0, 0, 4, 1, 2, 6)
            wanted[a, 3] = ("join", 2, 0, 1, 0)
            for i in range(1, many):
                wanted[places[n - i]] = wanted[places[n - i]][:2] + (tape[i],)
            self.assertEqual(parked(tape), wanted)
            self.assertTrue(is_still(parked(tape)))

    def test_built_and_road_are_counted_from_the_corner(self):
        # n is 28, so w is 14 and a is 6.
        self.assertEqual(built(ONE_WIRE), {(8, -1): ("wire", 0, 0)})
        self.assertEqual(road_of(ONE_WIRE), ((6, -1), (7, -1), (8, -1), (6, 0)))
        self.assertEqual(built(NOTHING), {})
        self.assertEqual(road_of(NOTHING), ((2, 0),))
        for tape in random_tapes(604, 40):
            made = meaning(tape)
            a = numbers_of(tape)[3]
            self.assertEqual(built(tape), at_corner(made.cells, tape))
            self.assertEqual(road_of(tape), tuple((x + a, y) for x, y in made.road))
            self.assertIsInstance(road_of(tape), tuple)


class RoomTest(unittest.TestCase):
    def test_body_box(self):
        self.assertEqual(body_box(NOTHING), (0, 0, 5, 3))
        self.assertEqual(body_box(ONE_WIRE), (0, 0, 13, 3))
        self.assertEqual(body_box(WITH_PORT), (0, 0, numbers_of(WITH_PORT)[2] - 1, 3))

    def test_room_in_each_direction(self):
        for line, wanted in (
            ("start stop end", (0, 0, 5, 3)),
            ("start forth stop end", (0, -1, 6, 3)),
            ("start d12 d8 forth stop end", (0, -200, 8, 3)),
            # Words are 9, so n is 24, w is 12 and a is 5: the road goes from x = 5 to x = 14, or to x = -4.
            ("start forth right d9 forth d9 w0 stop end", (0, -1, 14, 3)),
            ("start forth left d9 forth d9 w0 stop end", (-4, -1, 11, 3)),
        ):
            self.assertEqual(room(read_tape(line)), wanted, line)

    def test_the_place_in_front_of_the_port(self):
        for line, wanted in (
            # M = 3, n = 12: the port stands at (2, 0) and looks north.
            ("start port end", (0, -1, 5, 3)),
            ("start forth port end", (0, -2, 6, 3)),
            ("start forth left port end", (0, -1, 7, 3)),
            # M = 8, n = 22, w = 11, a = 5: the port stands at (-4, -1) and looks south or north.
            ("start forth left d9 forth left port end", (-4, -1, 10, 3)),
            ("start forth left d9 forth right port end", (-4, -2, 10, 3)),
            # M = 7, n = 20, w = 10, a = 4: it stands at (-5, -1) or (13, -1) and looks ahead.
            ("start forth left d9 forth port end", (-6, -1, 9, 3)),
            ("start forth right d9 forth port end", (0, -1, 14, 3)),
            # M = 9, n = 24, w = 12, a = 5: it stands at (14, -1) and looks back.
            ("start forth right d9 forth left left port end", (0, -1, 14, 3)),
            ("start forth right right port end", (0, -1, 8, 3)),
        ):
            self.assertEqual(room(read_tape(line)), wanted, line)

    def test_room_is_the_least_box(self):
        for tape in random_tapes(605, 120):
            made = meaning(tape)
            cells = {place: True for place in list(road_of(tape)) + list(built(tape)) + [(0, 0), body_box(tape)[2:]]}
            if 4 in tape:
                x, y = made.place
                dx, dy = ((1, 0), (0, -1), (-1, 0), (0, 1))[made.direction]
                cells[x + dx + numbers_of(tape)[3], y + dy] = True
            self.assertEqual(room(tape), box(cells))
            self.assertEqual(box(union(machine(tape), union(cells, built(tape)))), room(tape))


class RefusedTest(unittest.TestCase):
    def test_no_tapes(self):
        for value in NO_TAPES:
            for name, function in OF_TAPES.items():
                with self.assertRaises(BadTape, msg=(name, value)):
                    function(value)
        for function in OF_TAPES.values():
            with self.assertRaises(BadTape):
                function((6,) + (1,) * 398 + (5, 7))

    def test_refused_tapes(self):
        for line, error in REFUSED.items():
            for name, function in OF_TAPES.items():
                with self.assertRaises(getattr(errors, error), msg=(name, line)):
                    function(read_tape(line))


if __name__ == "__main__":
    unittest.main()
