"""What several tests need: names of directions, turning, and states and patterns to try."""

import random
import unittest

from ramet.yard import next_state

EAST, NORTH, WEST, SOUTH = 0, 1, 2, 3
STEPS = ((1, 0), (0, -1), (-1, 0), (0, 1))

# For each kind, the least and the greatest value of each item behind the kind.
ITEMS = {
    "wire": ((0, 3), (0, 96)),
    "not": ((0, 3), (0, 96)),
    "fork": ((0, 3), (0, 1), (0, 96), (0, 2)),
    "cross": ((0, 3), (0, 1), (0, 96), (0, 96)),
    "and": ((0, 3), (0, 1), (0, 2), (0, 2)),
    "or": ((0, 3), (0, 1), (0, 2), (0, 2)),
    "join": ((0, 3), (0, 1), (0, 1), (0, 96)),
    "reader": ((0, 3), (0, 1), (0, 6), (0, 2), (0, 2), (0, 96)),
    "arm": ((0, 3), (0, 1), (0, 2), (0, 96)),
    "head": ((0, 3), (0, 2), (0, 96), (0, 255)),
    "stretch": ((0, 3), (1, 255)),
    "retreat": ((0, 3), (24, 96), (1, 255)),
    "port": ((0, 3), (0, 1), (0, 96)),
    "regrow": ((0, 3),),
    "fade": (),
}
NET_KINDS = ("wire", "not", "fork", "cross", "and", "or", "join", "reader")
# The symbols that are told apart somewhere, and some that are not.
SOME_SYMBOLS = (1, 2, 3, 4, 5, 6, 7, 8, 9, 10, 23, 24, 25, 40, 96)


def turn_state(state, quarters):
    """Turn a state; written anew here, so that `turned` is not tested against itself."""
    if state is None or state == ("fade",):
        return state
    items = list(state)
    items[1] = (items[1] + quarters) % 4
    return tuple(items)


def turn_around(around, quarters):
    """Turn a list of neighbours and their states."""
    result = [None] * 4
    for way in range(4):
        result[(way + quarters) % 4] = turn_state(around[way], quarters)
    return result


def cell_around(east=None, north=None, west=None, south=None):
    return [east, north, west, south]


class RuleCase(unittest.TestCase):
    """Tests of the rule. Each expectation is checked in all four directions."""

    def becomes(self, state, around, expected):
        for quarters in range(4):
            turned_around = turn_around(around, quarters)
            before = list(turned_around)
            got = next_state(turn_state(state, quarters), turned_around)
            self.assertEqual(got, turn_state(expected, quarters), (state, around, quarters))
            self.assertEqual(turned_around, before)

    def stays(self, state, around):
        self.becomes(state, around, state)


def fits(state):
    """Tell whether the items of a state, each in its bounds, go together ([1.4])."""
    kind, *items = state
    if kind == "fork":
        return not (items[2] == 0 and items[3] != 0)
    if kind == "reader":
        if items[2] == 4:
            return items[5] == 6 and items[4] == 2
        return not (items[5] == 0 and items[4] != 0)
    if kind == "head":
        if items[1] == 2:
            return (items[2] == 3 or items[2] >= 24) and items[3] >= 1
        return items[2] == 0
    if kind == "port":
        return items[1] == 1 or items[2] == 0
    return True


def random_item(rng, least, most):
    if most == 96:
        if least == 0 and rng.random() < 0.35:
            return 0
        symbols = [sym for sym in SOME_SYMBOLS if sym >= least]
        return rng.choice(symbols) if rng.random() < 0.9 else rng.randint(max(least, 1), most)
    if most == 255:
        return rng.choice([least, 0, 1, 1, 2, 15, 16, 17, 254, 255, rng.randint(least, most)])
    return rng.randint(least, most)


def random_state(rng, kinds):
    """Return a state of one of the kinds; the kind None is ground."""
    while True:
        kind = rng.choice(kinds)
        if kind is None:
            return None
        state = (kind,) + tuple(random_item(rng, least, most) for least, most in ITEMS[kind])
        in_bounds = all(least <= item <= most for item, (least, most) in zip(state[1:], ITEMS[kind]))
        if in_bounds and fits(state):
            return state


def random_pattern(rng, kinds, width, height, full):
    """Return a pattern in a box, in which each place has a cell with the probability `full`."""
    pattern = {}
    for y in range(height):
        for x in range(width):
            if rng.random() < full:
                pattern[(x - 3, y - 2)] = random_state(rng, kinds)
    return pattern


def random_patterns(seed, many):
    """Return patterns of various kinds: nets only, arms and heads among them, and all mixed."""
    rng = random.Random(seed)
    every = tuple(ITEMS)
    arms = ("arm", "arm", "head", "head", "stretch", "retreat", "regrow", "port", "wire", "reader", "fade")
    patterns = []
    for k in range(many):
        kinds = (NET_KINDS, arms, every)[k % 3]
        width, height = rng.randint(1, 9), rng.randint(1, 7)
        patterns.append(random_pattern(rng, kinds, width, height, rng.choice([0.3, 0.6, 0.9])))
    return patterns


def loaded(tape):
    """Return the pattern of a constructor with a tape in its ring, and the column of its arm."""
    cells = 2 * len(tape) + 6
    width = cells // 2
    middle = (width - 1) // 2
    pattern = {(x, 2): ("wire", 0, 0) for x in range(width)}
    pattern.update({(x, 3): ("wire", 2, 0) for x in range(width)})
    pattern[(width - 1, 2)] = ("wire", 3, 0)
    pattern[(0, 3)] = ("wire", 1, 0)
    ring = [(x, 2) for x in range(middle, width)] + [(x, 3) for x in reversed(range(width))]
    ring += [(x, 2) for x in range(middle)]
    for i, sym in enumerate(tape):
        place = ring[cells - 1 - i]
        pattern[place] = pattern[place][:2] + (sym,)
    pattern[(middle, 0)] = ("head", 1, 1, 0, 0)
    pattern[(middle, 1)] = ("arm", 1, 1, 0, 0)
    pattern[(middle, 2)] = ("reader", 0, 0, 1, 1, 0, 0)
    pattern[(middle, 3)] = ("join", 2, 0, 1, 0)
    return pattern, middle


def constructor():
    """Return the pattern of a small constructor, and what it leaves beside itself.

    It reads "forth right d2 forth w1 w0 left w0 stop" from its ring, so it puts one wire down.
    """
    pattern, middle = loaded((6, 3, 2, 10, 3, 25, 24, 1, 24, 5, 7))
    return pattern, {(middle + 2, -1): ("wire", 0, 0)}
