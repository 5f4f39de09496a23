"""What a family has lost, and what is strange in it (8.2, 8.3)."""

import random
import unittest

from ramet.body import parked
from ramet.describe import describe
from ramet.errors import NotQuiet
from ramet.families import Families
from ramet.look import look
from ramet.own import heir
from ramet.space import box, moved

from tests.helpers import ITEMS, random_state

WIRE = ("wire", 0, 0)
STRANGE = ("fork", 1, 1, 0, 0)
HEIR = heir({})
WORKER = describe({(3, -4): WIRE, (-6, -2): ("wire", 1, 9)})
LATE = 10 ** 6


def family():
    """A parent, a worker, and the parent's child, which is halted."""
    families = Families([(HEIR, (0, 0)), (WORKER, (100, 0))], {(22, -9): WIRE, (60, 60): ("not", 0, 0)})
    families.grow(LATE)
    return families


class LookTest(unittest.TestCase):
    def setUp(self):
        self.families = family()
        self.space = self.families.space(LATE)

    def sees(self, now, wanted):
        kept = dict(now)
        found = look(self.families, now, LATE)
        self.assertEqual(found, wanted)
        self.assertEqual(now, kept)
        self.assertIsInstance(found, list)
        for triple in found:
            self.assertIsInstance(triple, tuple)
            self.assertTrue(isinstance(triple[1], dict) and isinstance(triple[2], dict))

    def test_nothing_for_the_space_itself(self):
        self.sees(self.space, [])

    def test_lost_cells(self):
        for number, place in ((0, (3, 3)), (0, (22, 0)), (0, (22, 2)), (2, (0, -6)), (2, (45, -5))):
            now = dict(self.space)
            lost = {place: now.pop(place)}
            self.sees(now, [(number, lost, {})])
        cells = self.families.cells_of(1)
        for place in list(cells):
            now = dict(self.space)
            del now[place]
            self.sees(now, [(1, {place: cells[place]}, {})])

    def test_other_cells_in_their_place(self):
        for number, place in ((0, (3, 3)), (2, (22, -8)), (2, (0, -6))):
            now = dict(self.space)
            now[place] = STRANGE
            self.sees(now, [(number, {place: self.space[place]}, {place: STRANGE})])
        # The same kind of cell that holds another symbol is another cell.
        place = next(place for place, state in self.families.cells_of(0).items() if state[0] == "wire" and state[2] != 0)
        now = dict(self.space)
        now[place] = now[place][:2] + (0,)
        self.sees(now, [(0, {place: self.space[place]}, {place: now[place]})])

    def test_strange_cells(self):
        x0, y0, x1, y1 = box(self.families.cells_of(1))
        self.assertEqual(y0, -4)
        inside = [(x0, y0), (x1, y0), (x0, y1 - 2), (x1, y1 - 3), (x0 + 3, y0 + 1)]
        for place in inside:
            self.assertFalse(place in self.space)
            self.sees({**self.space, place: STRANGE}, [(1, {}, {place: STRANGE})])
        for place in ((x0 - 1, y0), (x1 + 1, y0), (x0, y0 - 1), (x1, y1 + 1), (x0 - 1, y1), (9999, 0)):
            self.sees({**self.space, place: STRANGE}, [])
        self.sees({**self.space, **{place: STRANGE for place in inside}}, [(1, {}, {place: STRANGE for place in inside})])
        # Free places in a body box are in the box of the cells.
        self.sees({**self.space, (0, 0): STRANGE, (44, 1): WIRE}, [(0, {}, {(0, 0): STRANGE, (44, 1): WIRE})])

    def test_several_machines_in_order(self):
        now = dict(self.space)
        wanted = [(0, {(5, 2): now.pop((5, 2))}, {(1, 1): WIRE}), (1, {}, {(101, 1): WIRE}), (2, {(5, -6): now[5, -6]}, {(5, -6): STRANGE})]
        now[5, -6], now[101, 1], now[1, 1] = STRANGE, WIRE, WIRE
        self.sees(now, wanted)
        self.sees(dict(reversed(list(now.items()))), wanted)

    def test_everything_is_lost(self):
        wanted = [(number, self.families.cells_of(number), {}) for number in range(3)]
        self.sees({}, wanted)
        self.sees({(60, 60): STRANGE}, wanted)
        # Lost walls are not told.
        now = dict(self.space)
        del now[60, 60]
        del now[22, -9]
        self.sees(now, [])

    def test_walls_in_a_box(self):
        # The wall stands between what is built and the body, not on the road.
        walls = {(110, -3): WIRE}
        worker = describe({(3, -4): WIRE, (-6, -2): ("wire", 1, 0)})
        families = Families([(worker, (100, 0))], walls)
        families.grow(LATE)
        self.assertEqual(families.machines()[0][6], 0)
        x0, y0, x1, y1 = box(families.cells_of(0))
        self.assertTrue(x0 <= 110 <= x1 and y0 <= -3 <= y1)
        self.assertEqual(look(families, families.space(LATE), LATE), [(0, {}, walls)])

    def test_cells_of_another_machine(self):
        # The goods stand beside the child, so the child lies in the box of its parent's cells.
        tape = heir({(0, 0): WIRE})
        families = Families([(tape, (0, 0))], {(23, -9): WIRE, (22, -10): WIRE})
        families.grow(LATE)
        self.assertEqual([row[6] > 0 for row in families.machines()], [False, True])
        space = families.space(LATE)
        child = families.cells_of(1)
        x0, y0, x1, y1 = box(families.cells_of(0))
        inside = {place: state for place, state in child.items() if x0 <= place[0] <= x1 and y0 <= place[1] <= y1}
        self.assertTrue(len(inside) > 40)
        self.assertEqual(look(families, space, LATE), [(0, {}, inside)])

    def test_random_harms_tell_what_there_is(self):
        rng = random.Random(801)
        boxes = [box(self.families.cells_of(number)) for number in range(3)]
        for _ in range(60):
            now = dict(self.space)
            for place in rng.sample(sorted(now), rng.randint(0, 9)):
                if place not in ((22, -9), (60, 60)):
                    del now[place]
            for _ in range(rng.randint(0, 6)):
                x0, y0, x1, y1 = rng.choice(boxes)
                now[rng.randint(x0, x1), rng.randint(y0, y1)] = random_state(rng, tuple(ITEMS))
            again = dict(self.space)
            for _, lost, strange in look(self.families, now, LATE):
                for place in lost:
                    del again[place]
                again.update(strange)
            self.assertEqual(again, now)

    def test_not_quiet(self):
        families = Families([(HEIR, (0, 0))], {(22, -9): WIRE})
        for now in ({}, families.start(), self.space):
            with self.assertRaises(NotQuiet):
                look(families, now, LATE)
        families.grow(5000)
        with self.assertRaises(NotQuiet):
            look(families, {}, 5001)
        last = families.machines()[1][5]
        with self.assertRaises(NotQuiet):
            look(families, {}, last - 1)
        self.assertEqual(len(look(families, {}, last)), 2)
        self.assertEqual(look(families, families.space(last), 5000), [])

    def test_a_family_without_machines(self):
        families = Families([], {(0, 0): WIRE})
        with self.assertRaises(NotQuiet):
            look(families, {}, 0)
        families.grow(0)
        self.assertEqual(look(families, {}, 0), [])
        self.assertEqual(look(families, {(4, 4): STRANGE}, 0), [])

    def test_what_is_returned_is_new(self):
        now = {(0, 0): STRANGE}
        first = look(self.families, now, LATE)
        for _, lost, strange in first:
            lost.clear()
            strange.clear()
        self.sees(now, [(0, self.families.cells_of(0), now)] + [(number, self.families.cells_of(number), {}) for number in (1, 2)])
        self.assertEqual(self.families.cells_of(0), parked(HEIR))
        self.assertEqual(self.families.cells_of(2), moved(parked(HEIR), 0, -8))


if __name__ == "__main__":
    unittest.main()
