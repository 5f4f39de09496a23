"""1.1, 1.2 and 1.22 to 1.24: the rule as a whole, and `next_state` against the second writing of it."""

import random
import unittest

from ramet.kinds import ONE, is_state, turned
from ramet.yard import next_state

from tests.helpers import ITEMS, RuleCase, random_state, turn_around, turn_state
from tests.model import model_next

KINDS = tuple(ITEMS) + (None,)
# Kinds that have much to do with one another stand together more often.
GROUPS = (
    KINDS,
    ("wire", "not", "fork", "cross", "and", "or", "join", "reader", "port"),
    ("arm", "head", "port", "reader", "fade"),
    ("arm", "arm", "head", "retreat", "stretch", "regrow", None),
    ("reader", "arm", "regrow", "wire", "join"),
)


def facing(rng, state, way):
    """Turn a neighbour, most of the time so that it points into the middle."""
    if state is None or state[0] == "fade" or rng.random() < 0.5:
        return state
    return turn_state(state, way + 2 - state[1])


def situations(seed, many):
    rng = random.Random(seed)
    for k in range(many):
        kinds = GROUPS[k % len(GROUPS)]
        middle = random_state(rng, kinds)
        around = [facing(rng, random_state(rng, kinds), way) for way in range(4)]
        if _is_open(middle, around):
            continue
        yield middle, around


def _is_open(middle, around):
    """A regrow beside a reader in phase 0, 1 or 3 that takes a symbol: the document can be read in two ways."""
    if middle is None or middle[0] != "reader" or middle[3] not in (0, 1, 3):
        return False
    return any(state is not None and state[0] == "regrow" for state in around)


class ModelTest(unittest.TestCase):
    def test_many_situations(self):
        for middle, around in situations(11, 60000):
            before = list(around)
            got = next_state(middle, around)
            self.assertEqual(got, model_next(middle, around), (middle, around))
            self.assertTrue(is_state(got))
            self.assertEqual(around, before)

    def test_the_same_in_all_directions(self):
        for middle, around in situations(12, 12000):
            if middle is not None and middle[0] == "head" and middle[2] == 2 and middle[3] >= 24:
                continue  # What a head writes has a direction of its own.
            expected = next_state(middle, around)
            for quarters in range(4):
                got = next_state(turned(middle, quarters), turn_around(around, quarters))
                self.assertEqual(got, turned(expected, quarters), (middle, around, quarters))


class ExampleTest(RuleCase):
    def test_two_wires(self):
        first, second = ("wire", 0, ONE), ("wire", 0, 0)
        self.assertEqual(next_state(first, [second, None, None, None]), ("wire", 0, 0))
        self.assertEqual(next_state(second, [None, None, first, None]), ("wire", 0, ONE))
        self.stays(("wire", 0, 0), [("wire", 0, ONE), None, None, None])
        self.stays(("wire", 0, ONE), [None, None, ("wire", 0, 0), None])

    def test_ground_is_none(self):
        self.assertIsNone(next_state(None, [None, None, None, None]))

    def test_neighbours_by_direction(self):
        """A wire in each direction; only the one behind it and the ones beside it matter."""
        for way in range(4):
            for place in range(4):
                around = [None] * 4
                around[place] = ("wire", (place + 2) % 4, 5)
                expected = ("wire", way, 0 if place == way else 5)
                self.assertEqual(next_state(("wire", way, 0), around), expected)


if __name__ == "__main__":
    unittest.main()
