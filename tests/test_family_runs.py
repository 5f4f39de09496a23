"""Families in runs: after the greatest rest, the yard is what was told (7.20 to 7.22, 7.25)."""

import random
import unittest

from ramet.describe import describe
from ramet.engine import Engine
from ramet.errors import RametError
from ramet.families import Families
from ramet.own import heir
from ramet.space import difference, union
from ramet.tape import read_tape

from tests.clan import random_family
from tests.kinfolk import own_tape

WIRE = ("wire", 0, 0)
HEIR = heir({})


class RunTest(unittest.TestCase):
    def runs_as_told(self, starts, walls):
        """Run a family that becomes quiet; return the tuples of its machines."""
        families = Families(starts, walls)
        families.grow(10 ** 6)
        last = max([row[5] for row in families.machines()], default=0)
        self.assertTrue(families.is_quiet(last))
        wanted = families.space(last)
        engine = Engine(families.start())
        engine.advance(last)
        self.assertEqual(difference(engine.pattern(), wanted), [], (starts, walls))
        self.assertEqual(engine.pattern(), wanted)
        # So it stays.
        self.assertTrue(engine.is_idle())
        engine.advance(1000)
        self.assertEqual(engine.pattern(), families.space(10 ** 6))
        # The walls stand as they stood.
        self.assertEqual({place: engine.at(place) for place in walls}, walls)
        return families.machines()

    def test_the_example(self):
        self.assertEqual([row[6] for row in self.runs_as_told([(HEIR, (0, 0))], {(22, -9): WIRE})], [0, 2])
        self.assertEqual([row[6] for row in self.runs_as_told([(HEIR, (0, 0))], {(22, -1): WIRE})], [2])

    def test_lines(self):
        for tape, walls, many in (
            (HEIR, {(22, -33): ("join", 1, 0, 1, 0)}, 5), (HEIR, {(0, -21): ("cross", 2, 1, 0, 0)}, 3),
            (heir({(0, 0): ("and", 0, 1, 0, 0), (2, 1): WIRE, (2, 12): ("not", 3, 0)}), {(30, -40): ("or", 0, 0, 0, 0), (60, -59): WIRE}, None),
            (own_tape("d9 forth left d2 d1 forth right"), {(-40, -27): WIRE, (-41, -28): WIRE, (-10, -30): WIRE}, None),
        ):
            rows = self.runs_as_told([(tape, (0, 0))], union(walls, {(x, -70): WIRE for x in range(-200, 200)}))
            self.assertTrue(many is None or len(rows) == many, rows)
            self.assertTrue(rows[-1][6] > 0)

    def test_walls_at_each_forth(self):
        # A parent with goods is halted at each of its FORTHs in turn.
        tape = heir({(0, 0): WIRE, (3, 2): ("not", 2, 0)})
        halts = {}
        for x in (0, 22, 30, 51, 52, 53, 54, 55):
            for y in range(-8, -4):
                rows = self.runs_as_told([(tape, (0, 0))], {(x, y): ("fork", 1, 1, 0, 0), (24, -9): WIRE, (25, -30): WIRE, (26, -12): WIRE, (24, -14): WIRE})
                halts[rows[0][6]] = True
        self.assertTrue(len(halts) >= 5, halts)

    def test_workers_beside_each_other(self):
        worker = describe({(3, -4): WIRE, (-3, -4): ("wire", 1, 0), (0, -7): ("head", 0, 1, 0, 0)})
        halted = read_tape("start d9 forth right d5 forth w1 w2 w3 w13 w33 left d4 w1 stop end")
        rows = self.runs_as_told(
            [(worker, (0, 0)), (worker, (40, 0)), (halted, (80, 0)), (halted, (120, 9))],
            {(40 + 15, -3): WIRE, (80 + 9, -5): WIRE, (80 + 14, -9): WIRE, (0, 30): WIRE},
        )
        self.assertTrue(any(row[6] for row in rows))

    def test_a_line_that_meets_a_machine_that_is_over(self):
        worker = describe({(k, -1): ("wire", 3, 0) for k in range(-5, 6)})
        for x, y in ((20, -40), (10, -17), (-20, -31), (30, -24), (15, -23)):
            rows = self.runs_as_told([(HEIR, (0, 0)), (worker, (x, y))], {(0, -62): WIRE, (22, -61): WIRE})
            self.assertTrue(any(row[6] for row in rows), (x, y))

    def test_random_families(self):
        rng = random.Random(721)
        quiet, halted, many = 0, 0, 0
        for _ in range(36):
            starts, walls = random_family(rng)
            families = Families(starts, walls)
            try:
                families.grow(10 ** 7)
            except RametError:
                continue
            quiet += 1
            many += len(families.machines())
            halted += sum(1 for row in families.machines() if row[6] > 0)
            self.runs_as_told(starts, walls)
        self.assertTrue(quiet > 24 and halted > 24 and many > 80, (quiet, halted, many))

    def test_walls_apart_from_all_rooms(self):
        rng = random.Random(722)
        starts, walls = [(HEIR, (0, 0))], {(22, -15): WIRE}
        rows = self.runs_as_told(starts, walls)
        more = {(rng.randint(-30, 80), rng.choice([7, 9, -40, -28])): ("not", 1, 0) for _ in range(60)}
        self.assertEqual(self.runs_as_told(starts, union(more, walls)), rows)

    def test_walls_that_do_not_stand_still_alone(self):
        # Walls hold nothing; so they stay as they are, however they look at each other and at the rings.
        walls = {(x, y): ("wire", (x + y) % 4, 0) for x in range(-3, 50) for y in (5, 4) if (x, y) != (22, 4)}
        self.runs_as_told([(HEIR, (0, 0))], union(walls, {(22, -3): WIRE}))

    def test_nothing(self):
        self.assertEqual(self.runs_as_told([], {}), [])
        self.assertEqual(self.runs_as_told([], {(0, 0): WIRE, (1, 0): ("join", 0, 1, 1, 0)}), [])


if __name__ == "__main__":
    unittest.main()
