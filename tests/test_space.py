"""2.1 to 2.8: patterns, and their steps by the definition."""

import random
import unittest

from ramet.kinds import ONE, is_state
from ramet.space import (
    box, cells, difference, from_cells, is_pattern, is_still, moved, rest, run, step, turned_pattern, union,
)
from ramet.yard import next_state

from tests.helpers import STEPS, constructor, random_patterns, turn_state
from tests.model import model_step

WIRE = ("wire", 0, 0)
FAR = 100000


class IsPatternTest(unittest.TestCase):
    def test_patterns(self):
        for value in (
            {}, {(0, 0): WIRE}, {(-5, 7): ("fade",), (FAR, -FAR): ("head", 1, 2, 96, 255)},
            {(10 ** 9, -10 ** 9): WIRE}, {(0, 1): WIRE, (1, 0): ("regrow", 2)},
        ):
            self.assertIs(is_pattern(value), True, value)

    def test_no_dicts(self):
        for value in (None, [], (), 0, True, "", "wire", [((0, 0), WIRE)], WIRE, ((0, 0), WIRE)):
            self.assertIs(is_pattern(value), False, value)

    def test_wrong_places(self):
        for place in (
            0, None, "ab", (), (0,), (0, 0, 0), (0, "1"), ("0", 1), (0, None), (True, 0), (0, False),
            (0.0, 1), (0, 1.0), ((0, 0), 0), b"ab",
        ):
            self.assertIs(is_pattern({place: WIRE}), False, place)
            self.assertIs(is_pattern({(7, 7): WIRE, place: WIRE}), False, place)
            self.assertIs(is_pattern({place: WIRE, (7, 7): WIRE}), False, place)

    def test_wrong_states(self):
        for state in (None, 0, True, "wire", [], ["wire", 0, 0], ("wire", 0), ("wire", 4, 0), ("wire", 0, True), ()):
            self.assertIs(is_pattern({(0, 0): state}), False, state)
            self.assertIs(is_pattern({(0, 0): WIRE, (1, 0): state}), False, state)
            self.assertIs(is_pattern({(1, 0): state, (0, 0): WIRE}), False, state)


class OperationTest(unittest.TestCase):
    def setUp(self):
        self.patterns = random_patterns(21, 12) + [{}, {(FAR, -FAR): WIRE, (-FAR, FAR): ("fade",)}]

    def test_moved(self):
        self.assertEqual(moved({}, 3, 4), {})
        self.assertEqual(moved({(1, 2): WIRE, (-1, 0): ("fade",)}, 10, -20), {(11, -18): WIRE, (9, -20): ("fade",)})
        for pattern in self.patterns:
            self.assertEqual(moved(moved(pattern, 5, -7), -5, 7), pattern)
            self.assertEqual(moved(pattern, -3, FAR), {(x - 3, y + FAR): pattern[x, y] for x, y in pattern})

    def test_turned_pattern(self):
        self.assertEqual(turned_pattern({}, 1), {})
        pattern = {(2, 1): WIRE, (0, -3): ("fork", 3, 1, 5, 2), (0, 0): ("fade",)}
        self.assertEqual(turned_pattern(pattern, 0), pattern)
        expected = {(1, -2): ("wire", 1, 0), (-3, 0): ("fork", 0, 1, 5, 2), (0, 0): ("fade",)}
        self.assertEqual(turned_pattern(pattern, 1), expected)
        expected = {(-2, -1): ("wire", 2, 0), (0, 3): ("fork", 1, 1, 5, 2), (0, 0): ("fade",)}
        self.assertEqual(turned_pattern(pattern, 2), expected)
        expected = {(-1, 2): ("wire", 3, 0), (3, 0): ("fork", 2, 1, 5, 2), (0, 0): ("fade",)}
        self.assertEqual(turned_pattern(pattern, 3), expected)
        for pattern in self.patterns:
            once = {(y, -x): turn_state(pattern[x, y], 1) for x, y in pattern}
            self.assertEqual(turned_pattern(pattern, 1), once)
            self.assertEqual(turned_pattern(once, 3), pattern)

    def test_a_turn_takes_the_neighbour_to_the_next_direction(self):
        for way, place in enumerate(STEPS):
            turned_one = turned_pattern({place: ("wire", way, 0)}, 1)
            self.assertEqual(turned_one, {STEPS[(way + 1) % 4]: ("wire", (way + 1) % 4, 0)})

    def test_union(self):
        first = {(0, 0): WIRE, (1, 0): ("not", 0, 0)}
        second = {(1, 0): ("fade",), (2, 0): ("regrow", 1)}
        self.assertEqual(union(first, second), {(0, 0): WIRE, (1, 0): ("fade",), (2, 0): ("regrow", 1)})
        self.assertEqual(union(second, first), {(0, 0): WIRE, (1, 0): ("not", 0, 0), (2, 0): ("regrow", 1)})
        self.assertEqual(union({}, first), first)
        self.assertEqual(union(first, {}), first)
        self.assertEqual(union({}, {}), {})

    def test_difference(self):
        first = {(5, 0): WIRE, (0, 1): WIRE, (-4, 1): WIRE, (9, 9): WIRE, (-9, -9): WIRE}
        second = {(5, 0): ("wire", 1, 0), (0, 1): WIRE, (3, 0): WIRE, (9, 9): ("fade",), (FAR, -FAR): WIRE}
        expected = [(FAR, -FAR), (-9, -9), (3, 0), (5, 0), (-4, 1), (9, 9)]
        self.assertEqual(difference(first, second), expected)
        self.assertEqual(difference(second, first), expected)
        self.assertEqual(difference({}, {}), [])
        self.assertEqual(difference({}, {(1, 0): WIRE, (0, 0): WIRE}), [(0, 0), (1, 0)])
        for pattern in self.patterns:
            self.assertEqual(difference(pattern, dict(pattern)), [])
            ordered = sorted(pattern, key=lambda place: (place[1], place[0]))
            self.assertEqual(difference(pattern, {}), ordered)
            self.assertEqual(difference({}, pattern), ordered)

    def test_box(self):
        self.assertIsNone(box({}))
        self.assertEqual(box({(3, -4): WIRE}), (3, -4, 3, -4))
        self.assertEqual(box({(3, -4): WIRE, (-1, 0): WIRE, (2, 9): WIRE}), (-1, -4, 3, 9))
        self.assertEqual(box({(FAR, -FAR): WIRE, (-FAR, FAR): WIRE}), (-FAR, -FAR, FAR, FAR))

    def test_cells(self):
        self.assertEqual(cells({}), [])
        pattern = {(5, 1): WIRE, (-5, 1): ("fade",), (9, 0): ("regrow", 3), (0, 0): WIRE}
        self.assertEqual(cells(pattern), [(0, 0, WIRE), (9, 0, ("regrow", 3)), (-5, 1, ("fade",)), (5, 1, WIRE)])
        for pattern in self.patterns:
            self.assertEqual(from_cells(cells(pattern)), pattern)
            self.assertEqual([(x, y) for x, y, _ in cells(pattern)], difference(pattern, {}))

    def test_from_cells(self):
        self.assertEqual(from_cells([]), {})
        self.assertEqual(from_cells([(0, 0, WIRE), (1, 0, ("fade",))]), {(0, 0): WIRE, (1, 0): ("fade",)})
        self.assertEqual(from_cells([(0, 0, WIRE), (0, 0, ("fade",))]), {(0, 0): ("fade",)})
        self.assertEqual(from_cells([(0, 0, WIRE), (1, 0, WIRE), (0, 0, None)]), {(1, 0): WIRE})
        self.assertEqual(from_cells([(0, 0, None), (0, 0, WIRE)]), {(0, 0): WIRE})
        self.assertEqual(from_cells([(0, 0, WIRE), (0, 0, None), (0, 0, ("fade",))]), {(0, 0): ("fade",)})
        self.assertEqual(from_cells([(0, 0, None), (5, 5, None)]), {})
        self.assertEqual(from_cells([(FAR, -FAR, WIRE)]), {(FAR, -FAR): WIRE})

    def test_what_is_passed_stays_and_what_is_returned_is_new(self):
        for pattern in self.patterns:
            before = dict(pattern)
            other = {(0, 0): ("fade",)}
            rows = cells(pattern)
            rows_before = list(rows)
            results = [
                moved(pattern, 0, 0), moved(pattern, 1, 1), turned_pattern(pattern, 0), turned_pattern(pattern, 1),
                union(pattern, {}), union({}, pattern), union(pattern, other), from_cells(rows), step(pattern),
                run(pattern, 0), run(pattern, 2),
            ]
            difference(pattern, other)
            box(pattern)
            is_still(pattern)
            rest(pattern, 2)
            is_pattern(pattern)
            for result in results:
                result[(12345, 6)] = WIRE
                result.pop((0, 0), None)
            self.assertEqual(pattern, before)
            self.assertEqual(list(pattern), list(before))
            self.assertEqual(other, {(0, 0): ("fade",)})
            self.assertEqual(rows, rows_before)


class StepTest(unittest.TestCase):
    def test_next_state_at_each_place_and_beside_it(self):
        for pattern in random_patterns(22, 60):
            after = step(pattern)
            self.assertTrue(is_pattern(after))
            places = {(x + dx, y + dy) for x, y in pattern for dx, dy in STEPS + ((0, 0),)}
            self.assertTrue(set(after) <= places)
            for x, y in places:
                around = [pattern.get((x + dx, y + dy)) for dx, dy in STEPS]
                self.assertEqual(after.get((x, y)), next_state(pattern.get((x, y)), around))

    def test_against_the_model(self):
        for pattern in random_patterns(23, 60):
            self.assertEqual(step(pattern), model_step(pattern))

    def test_by_hand(self):
        self.assertEqual(step({}), {})
        self.assertEqual(step({(0, 0): ("fade",)}), {})
        expected = {(4, 4): ("arm", 1, 0, 0, 0), (4, 3): ("head", 1, 0, 0, 0)}
        self.assertEqual(step({(4, 4): ("stretch", 1, 1)}), expected)

    def test_neighbours_of_a_growing_cell(self):
        for way, (dx, dy) in enumerate(STEPS):
            self.assertEqual(step({(0, 0): ("regrow", way)})[(dx, dy)], ("head", way, 1, 0, 0))

    def test_run(self):
        for pattern in random_patterns(24, 30):
            now = dict(pattern)
            for steps in range(7):
                self.assertEqual(run(pattern, steps), now)
                now = step(now)

    def test_run_of_a_still_pattern_and_long_runs(self):
        pattern, left = constructor()
        end = run(pattern, 87)
        self.assertEqual(run(pattern, 90), end)
        self.assertTrue(is_still(end))
        self.assertFalse(is_still(run(pattern, 86)))
        self.assertEqual({place: end[place] for place in left}, left)
        self.assertEqual(run({(0, 0): WIRE}, 1000), {(0, 0): WIRE})

    def test_is_still(self):
        for pattern in random_patterns(25, 60):
            self.assertIs(is_still(pattern), step(pattern) == pattern)
        self.assertIs(is_still({}), True)
        self.assertIs(is_still({(0, 0): ("wire", 0, 5)}), True)
        self.assertIs(is_still({(0, 0): ("fade",)}), False)
        self.assertIs(is_still({(0, 0): ("wire", 0, 5), (1, 0): WIRE}), False)
        self.assertIs(is_still({(0, 0): ("head", 0, 1, 0, 0)}), True)

    def test_rest(self):
        row = {(x, 0): WIRE for x in range(1, 6)}
        row[(0, 0)] = ("wire", 0, ONE)
        self.assertEqual(rest(row, 100), 5)
        self.assertEqual(rest(row, 5), 5)
        self.assertEqual(rest(row, 4), -1)
        self.assertEqual(rest(row, 0), -1)
        self.assertEqual(rest({}, 0), 0)
        self.assertEqual(rest({(0, 0): WIRE}, 0), 0)
        self.assertEqual(rest({(0, 0): WIRE}, 50), 0)
        self.assertEqual(rest({(0, 0): ("fade",)}, 1), 1)
        self.assertEqual(rest({(0, 0): ("fade",)}, 0), -1)

    def test_rest_of_what_never_rests(self):
        ring = {(0, 0): ("wire", 0, 5), (1, 0): ("wire", 3, 0), (1, 1): ("wire", 2, 0), (0, 1): ("wire", 1, 0)}
        self.assertEqual(rest(ring, 30), -1)
        self.assertEqual(run(ring, 4), ring)
        self.assertFalse(is_still(ring))

    def test_rest_is_the_least_number(self):
        for pattern in random_patterns(26, 40):
            taken = rest(pattern, 12)
            states = [run(pattern, k) for k in range(13)]
            still = [k for k in range(13) if is_still(states[k])]
            self.assertEqual(taken, still[0] if still else -1)

    def test_states_stay_states(self):
        rng = random.Random(27)
        for pattern in random_patterns(27, 30):
            for state in run(pattern, rng.randint(1, 9)).values():
                self.assertTrue(is_state(state))


if __name__ == "__main__":
    unittest.main()
