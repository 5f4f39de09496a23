"""2.13 to 2.17: what follows from the rule."""

import random
import unittest

from ramet.engine import Engine
from ramet.kinds import ONE, ZERO
from ramet.space import moved, rest, run, step, turned_pattern, union

from tests.helpers import ITEMS, NET_KINDS, constructor, random_pattern, random_patterns, random_state

NO_WRITERS = tuple(kind for kind in ITEMS if kind not in ("head", "retreat"))


class LocalTest(unittest.TestCase):
    """2.13"""

    def test_what_happens_depends_on_what_is_near(self):
        rng = random.Random(41)
        for pattern in random_patterns(41, 30):
            steps = rng.randint(1, 4)
            place = (rng.randint(-3, 5), rng.randint(-2, 4))
            other = {}
            for (x, y), state in pattern.items():
                if abs(x - place[0]) + abs(y - place[1]) <= steps:
                    other[(x, y)] = state
            for _ in range(30):
                x, y = rng.randint(-8, 10), rng.randint(-8, 10)
                if abs(x - place[0]) + abs(y - place[1]) > steps:
                    other[(x, y)] = random_state(rng, tuple(ITEMS))
            self.assertEqual(run(pattern, steps).get(place), run(other, steps).get(place))

    def test_patterns_far_from_each_other(self):
        patterns = random_patterns(42, 20)
        for first, second in zip(patterns, patterns[1:]):
            steps = 6
            away = moved(second, 9 + 2 * steps + 1, 0)
            together = run(union(first, away), steps)
            self.assertEqual(together, union(run(first, steps), run(away, steps)))


class TurnTest(unittest.TestCase):
    """2.14; what a head writes has a direction of its own, so no heads are about to write where it is turned."""

    def test_moved(self):
        for pattern in random_patterns(43, 30):
            for dx, dy in ((1, 0), (-7, 12), (50000, -50000)):
                self.assertEqual(run(moved(pattern, dx, dy), 5), moved(run(pattern, 5), dx, dy))

    def test_turned(self):
        rng = random.Random(44)
        for _ in range(30):
            pattern = random_pattern(rng, NO_WRITERS, 7, 6, 0.7)
            pattern[(1, 1)] = ("head", rng.randint(0, 3), 2, 3, 4)
            pattern = {place: state for place, state in pattern.items() if not holds_a_write(state)}
            for quarters in range(4):
                turned_run = run(turned_pattern(pattern, quarters), 6)
                self.assertEqual(turned_run, turned_pattern(run(pattern, 6), quarters))


def holds_a_write(state):
    return any(item >= 24 for item in state[1:])


class NetTest(unittest.TestCase):
    """2.15 and 2.16"""

    def test_net_cells_stay(self):
        rng = random.Random(45)
        for _ in range(40):
            pattern = random_pattern(rng, NET_KINDS, 8, 6, 0.8)
            engine = Engine(pattern)
            for _ in range(12):
                engine.advance(1)
                now = engine.pattern()
                self.assertEqual(set(now), set(pattern))
                for place in pattern:
                    self.assertEqual(now[place][:2], pattern[place][:2])

    def test_symbols_in_a_row_keep_their_order(self):
        rng = random.Random(46)
        for _ in range(30):
            symbols = [rng.randint(1, 96) if rng.random() < 0.5 else 0 for _ in range(20)]
            row = {(x, 0): ("wire", 0, sym) for x, sym in enumerate(symbols)}
            held = [sym for sym in symbols if sym]
            for _ in range(45):
                row = step(row)
                self.assertEqual([row[(x, 0)][2] for x in range(20) if row[(x, 0)][2]], held)
            self.assertEqual([row[(x, 0)][2] for x in range(20)], [0] * (20 - len(held)) + held)

    def test_a_row_with_bends(self):
        bends = [((0, 0), 0), ((1, 0), 0), ((2, 0), 3), ((2, 1), 3), ((2, 2), 2), ((1, 2), 2), ((0, 2), 3), ((0, 3), 0)]
        row = {place: ("wire", way, 0) for place, way in bends}
        for k, sym in enumerate((11, 12, 13)):
            row[bends[k][0]] = ("wire", bends[k][1], sym)
        end = run(row, 40)
        self.assertEqual([end[place][2] for place, _ in bends], [0, 0, 0, 0, 0, 11, 12, 13])


class ExampleTest(unittest.TestCase):
    def test_two_wires(self):
        """1.24"""
        pattern = {(0, 0): ("wire", 0, ONE), (1, 0): ("wire", 0, 0)}
        after = {(0, 0): ("wire", 0, 0), (1, 0): ("wire", 0, ONE)}
        self.assertEqual(step(pattern), after)
        self.assertEqual(run(pattern, 50), after)

    def test_two_wires_and_a_not(self):
        """2.17"""
        pattern = {(0, 0): ("wire", 0, ONE), (1, 0): ("wire", 0, 0), (2, 0): ("not", 0, 0)}
        after = {(0, 0): ("wire", 0, 0), (1, 0): ("wire", 0, 0), (2, 0): ("not", 0, ZERO)}
        self.assertEqual(rest(pattern, 10), 2)
        self.assertEqual(run(pattern, 2), after)
        engine = Engine(pattern)
        self.assertEqual(engine.settle(10), 2)
        self.assertEqual(engine.pattern(), after)
        self.assertEqual(engine.changes(), 4)

    def test_a_constructor_puts_down_what_its_ring_says(self):
        pattern, left = constructor()
        body = {place for place in pattern}
        for pattern in (pattern, moved(pattern, -40, 17)):
            end = run(pattern, 87)
            self.assertEqual(run(end, 5), end)
            outside = {place: state for place, state in end.items() if place not in pattern}
            self.assertEqual(len(end), len(body) + 1)
            self.assertEqual(list(outside.values()), list(left.values()))


if __name__ == "__main__":
    unittest.main()
