"""2.9 to 2.12: the engine."""

import random
import unittest

from ramet.engine import Engine
from ramet.kinds import ONE
from ramet.space import difference, is_still, rest, run, step

from tests.helpers import ITEMS, constructor, random_patterns, random_state

WIRE = ("wire", 0, 0)
RING = {(0, 0): ("wire", 0, 5), (1, 0): ("wire", 3, 0), (1, 1): ("wire", 2, 0), (0, 1): ("wire", 1, 0)}


def row(length):
    pattern = {(x, 0): WIRE for x in range(1, length)}
    pattern[(0, 0)] = ("wire", 0, ONE)
    return pattern


class AdvanceTest(unittest.TestCase):
    def test_at_once(self):
        for pattern in random_patterns(31, 90):
            for steps in (0, 1, 2, 3, 5, 9, 17):
                engine = Engine(pattern)
                self.assertIsNone(engine.advance(steps))
                self.assertEqual(engine.pattern(), run(pattern, steps))
                self.assertEqual(engine.time(), steps)

    def test_in_pieces(self):
        rng = random.Random(32)
        for pattern in random_patterns(32, 60):
            engine = Engine(pattern)
            now = dict(pattern)
            for _ in range(8):
                steps = rng.choice([0, 1, 1, 2, 3])
                engine.advance(steps)
                now = run(now, steps)
                self.assertEqual(engine.pattern(), now)

    def test_a_constructor(self):
        pattern, left = constructor()
        engine = Engine(pattern)
        now = pattern
        for _ in range(95):
            self.assertEqual(engine.pattern(), now)
            engine.advance(1)
            now = step(now)
        self.assertEqual(engine.pattern(), run(pattern, 87))
        for place in left:
            self.assertEqual(engine.at(place), left[place])

    def test_many_symbols_in_a_ring(self):
        ring = {(x, 0): ("wire", 0, 0) for x in range(8)}
        ring.update({(x, 1): ("wire", 2, 0) for x in range(8)})
        ring[(7, 0)] = ("wire", 3, 0)
        ring[(0, 1)] = ("wire", 1, 0)
        for k, place in enumerate(list(ring)[:10]):
            ring[place] = ring[place][:2] + (2 + 9 * k,)
        engine = Engine(ring)
        for steps in (1, 2, 3, 50, 111):
            before = engine.pattern()
            engine.advance(steps)
            self.assertEqual(engine.pattern(), run(before, steps))

    def test_long_runs_of_little(self):
        engine = Engine(RING)
        engine.advance(20001)
        self.assertEqual(engine.pattern(), run(RING, 1))
        self.assertEqual(engine.changes(), 40002)
        still = Engine({(x, y): WIRE for x in range(40) for y in range(40)})
        still.advance(10 ** 9)
        self.assertEqual(still.time(), 10 ** 9)
        self.assertEqual(still.changes(), 0)

    def test_looks_only_at_cells_that_may_change(self):
        """A long run of one symbol in a wide pattern; looking at every cell would take hours."""
        pattern = {(x, y): WIRE for x in range(100, 200) for y in range(150)}
        pattern.update(RING)
        engine = Engine(pattern)
        engine.advance(30000)
        self.assertEqual(engine.changes(), 60000)
        self.assertEqual(engine.pattern(), pattern)

    def test_far_away(self):
        pattern = {(100000, -100000): ("wire", 0, ONE), (100001, -100000): WIRE, (-100000, 100000): ("fade",)}
        engine = Engine(pattern)
        engine.advance(1)
        self.assertEqual(engine.pattern(), {(100000, -100000): WIRE, (100001, -100000): ("wire", 0, ONE)})


class CountTest(unittest.TestCase):
    def test_time_and_changes(self):
        for pattern in random_patterns(33, 60):
            engine = Engine(pattern)
            self.assertEqual((engine.time(), engine.changes()), (0, 0))
            now, changes = pattern, 0
            for k in range(1, 9):
                after = step(now)
                changes += len(difference(now, after))
                now = after
                engine.advance(1)
                self.assertEqual((engine.time(), engine.changes()), (k, changes))

    def test_at(self):
        for pattern in random_patterns(34, 20):
            engine = Engine(pattern)
            for _ in range(4):
                now = engine.pattern()
                for x in range(-5, 9):
                    for y in range(-4, 7):
                        self.assertEqual(engine.at((x, y)), now.get((x, y)))
                engine.advance(1)
            self.assertIsNone(engine.at((5000, 5000)))

    def test_is_idle(self):
        for pattern in random_patterns(35, 60) + [{}, {(0, 0): WIRE}, RING, row(3)]:
            engine = Engine(pattern)
            for _ in range(6):
                now = engine.pattern()
                self.assertIs(engine.is_idle(), is_still(now))
                self.assertEqual(engine.pattern(), now)
                engine.advance(1)

    def test_asking_changes_nothing(self):
        engine = Engine(row(4))
        for _ in range(3):
            engine.is_idle()
            engine.pattern()
            engine.at((0, 0))
        self.assertEqual((engine.time(), engine.changes()), (0, 0))
        engine.advance(2)
        self.assertEqual(engine.pattern(), run(row(4), 2))
        self.assertEqual((engine.time(), engine.changes()), (2, 4))


class SettleTest(unittest.TestCase):
    def test_number_of_steps(self):
        for pattern in random_patterns(36, 60):
            for most in (0, 1, 2, 5, 12):
                engine = Engine(pattern)
                taken = engine.settle(most)
                self.assertEqual(taken, rest(pattern, most))
                steps = most if taken == -1 else taken
                self.assertEqual(engine.time(), steps)
                self.assertEqual(engine.pattern(), run(pattern, steps))
                self.assertIs(engine.is_idle(), taken != -1)

    def test_at_the_bound(self):
        self.assertEqual(Engine(row(6)).settle(5), 5)
        engine = Engine(row(6))
        self.assertEqual(engine.settle(4), -1)
        self.assertEqual(engine.time(), 4)
        self.assertEqual(engine.settle(4), 1)
        self.assertEqual(engine.time(), 5)
        self.assertEqual(engine.settle(4), 0)
        self.assertEqual(engine.time(), 5)
        self.assertEqual(Engine({}).settle(0), 0)

    def test_what_never_settles(self):
        engine = Engine(RING)
        self.assertEqual(engine.settle(999), -1)
        self.assertEqual(engine.time(), 999)
        self.assertEqual(engine.pattern(), run(RING, 3))

    def test_a_constructor(self):
        engine = Engine(constructor()[0])
        self.assertEqual(engine.settle(1000), 87)


class PutTest(unittest.TestCase):
    def test_sets_the_state(self):
        engine = Engine({})
        self.assertIsNone(engine.put((3, 4), ("wire", 0, 5)))
        self.assertEqual(engine.at((3, 4)), ("wire", 0, 5))
        self.assertEqual(engine.pattern(), {(3, 4): ("wire", 0, 5)})
        engine.put((3, 4), None)
        self.assertIsNone(engine.at((3, 4)))
        self.assertEqual(engine.pattern(), {})
        engine.put((9, 9), None)
        self.assertEqual(engine.pattern(), {})
        self.assertEqual((engine.time(), engine.changes()), (0, 0))

    def test_at_a_place_at_rest(self):
        pattern = row(5)
        engine = Engine(pattern)
        engine.settle(100)
        self.assertTrue(engine.is_idle())
        engine.put((0, 0), ("wire", 0, 9))
        self.assertFalse(engine.is_idle())
        changes = engine.changes()
        self.assertEqual(engine.settle(100), 3)
        self.assertEqual(engine.at((3, 0)), ("wire", 0, 9))
        self.assertEqual(engine.changes() - changes, 6)

    def test_neighbours_wake_up(self):
        """A full wire at rest gives its symbol when a wire is put at its front; so in all directions."""
        for way, place in enumerate(((1, 0), (0, -1), (-1, 0), (0, 1))):
            engine = Engine({(0, 0): ("wire", way, 5)})
            engine.advance(10)
            engine.put(place, ("wire", way, 0))
            engine.advance(1)
            self.assertEqual(engine.pattern(), {(0, 0): ("wire", way, 0), place: ("wire", way, 5)})
            self.assertEqual((engine.time(), engine.changes()), (11, 2))

    def test_ground_in_the_way_of_a_symbol(self):
        engine = Engine(row(9))
        engine.advance(3)
        engine.put((5, 0), None)
        engine.advance(10)
        expected = run({place: state for place, state in row(9).items() if place != (5, 0)}, 4)
        self.assertEqual(engine.pattern(), expected)
        engine.put((5, 0), WIRE)
        engine.advance(10)
        self.assertEqual(engine.at((8, 0)), ("wire", 0, ONE))

    def test_after_asking_whether_it_is_idle(self):
        engine = Engine({(0, 0): WIRE})
        self.assertTrue(engine.is_idle())
        engine.put((1, 0), ("fade",))
        self.assertFalse(engine.is_idle())
        engine.put((1, 0), None)
        self.assertTrue(engine.is_idle())
        engine = Engine(row(3))
        self.assertFalse(engine.is_idle())
        engine.put((1, 0), None)
        self.assertTrue(engine.is_idle())
        engine.put((1, 0), ("wire", 0, 7))
        engine.advance(1)
        self.assertEqual(engine.pattern(), {(0, 0): ("wire", 0, ONE), (1, 0): WIRE, (2, 0): ("wire", 0, 7)})

    def test_like_a_run_of_the_changed_pattern(self):
        rng = random.Random(37)
        kinds = tuple(ITEMS) + (None, "wire", "arm")
        for pattern in random_patterns(37, 60):
            engine = Engine(pattern)
            now = dict(pattern)
            for _ in range(6):
                for _ in range(rng.randint(0, 3)):
                    place = (rng.randint(-5, 8), rng.randint(-4, 6))
                    state = random_state(rng, kinds)
                    engine.put(place, state)
                    now.pop(place, None)
                    if state is not None:
                        now[place] = state
                self.assertEqual(engine.pattern(), now)
                steps = rng.randint(0, 3)
                engine.advance(steps)
                now = run(now, steps)
                self.assertEqual(engine.pattern(), now)


class CopyTest(unittest.TestCase):
    def test_the_pattern_handed_in_may_be_changed(self):
        pattern = row(5)
        engine = Engine(pattern)
        pattern[(2, 0)] = ("fade",)
        del pattern[(0, 0)]
        self.assertEqual(engine.pattern(), row(5))
        engine.advance(2)
        self.assertEqual(engine.pattern(), run(row(5), 2))

    def test_the_patterns_handed_out_may_be_changed(self):
        engine = Engine(row(5))
        for k in range(4):
            out = engine.pattern()
            self.assertEqual(out, run(row(5), k))
            out[(2, 0)] = ("fade",)
            out.pop((0, 0))
            self.assertEqual(engine.pattern(), run(row(5), k))
            engine.advance(1)

    def test_the_pattern_handed_in_stays(self):
        pattern = row(5)
        engine = Engine(pattern)
        engine.put((0, 3), ("fade",))
        engine.advance(3)
        self.assertEqual(pattern, row(5))

    def test_engines_do_not_share_anything(self):
        first, second = Engine(row(4)), Engine(row(4))
        first.put((1, 0), None)
        first.advance(3)
        self.assertEqual(second.pattern(), row(4))
        self.assertEqual((second.time(), second.changes()), (0, 0))


if __name__ == "__main__":
    unittest.main()
