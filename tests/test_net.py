"""4.1 to 4.8: nodes, transfers, and what the nodes of a net hand on."""

import random
import unittest

from ramet.engine import Engine
from ramet.errors import NotNet, TwoGivers
from ramet.net import handed, last_step, nodes
from ramet.space import is_still, run, turned_pattern

from tests.circuits import emptied, random_net, ring_of_cells, ring_places, watch, with_room
from tests.helpers import EAST, NORTH, SOUTH, STEPS, WEST


def row(symbols, way=EAST):
    """Return a row of wires that hold these symbols, the first one at (0, 0)."""
    dx, dy = STEPS[way]
    return {(k * dx, k * dy): ("wire", way, sym) for k, sym in enumerate(symbols)}


def wire_ring(width, height, symbols):
    """Return a ring of wires; its first places hold the symbols."""
    path = ring_places(width, height)
    net = {}
    for k, (x, y) in enumerate(path):
        after = path[(k + 1) % len(path)]
        way = STEPS.index((after[0] - x, after[1] - y))
        net[x, y] = ("wire", way, symbols[k] if k < len(symbols) else 0)
    return net, path


def inlet_by_the_rule(net, place, channel, way):
    """Return the place, channel and inlet at which a symbol arrives in a run of two cells, or None."""
    there = (place[0] + STEPS[way][0], place[1] + STEPS[way][1])
    if there not in net:
        return None
    state = net[place]
    giver = {"wire": (9,), "not": (9,), "fork": (9, 0), "cross": ((9, 0), (0, 9))[channel], "and": (2, 2), "or": (2, 2)}[state[0]]
    cell = emptied(net[there])
    after = run({place: emptied(state)[:-len(giver)] + giver, there: cell}, 1)[there]
    if after == cell:
        return None
    second = 1 if after[-2] == 0 and len(cell) == 5 else 0
    if cell[0] == "cross":
        return there, second, 0
    return there, 0, second if cell[0] in ("and", "or") else 0


def nodes_by_the_rule(net):
    """Return what `nodes` has to return, or None if two outlets lead to one inlet."""
    spots = []
    for x, y in sorted(net, key=lambda place: (place[1], place[0])):
        spots.extend([((x, y), channel) for channel in range(2 if net[x, y][0] == "cross" else 1)])
    sources = {}
    targets = []
    for k, (place, channel) in enumerate(spots):
        state = net[place]
        side = (state[1] + 1 + 2 * state[2]) % 4
        ways = {"fork": (state[1], side), "cross": ((state[1],), (side,))[channel]}.get(state[0], (state[1],))
        found = []
        for way in ways:
            entry = inlet_by_the_rule(net, place, channel, way)
            if entry is None:
                found.append((-1, 0))
            else:
                inlet = (spots.index(entry[:2]), entry[2])
                if inlet in sources:
                    return None
                sources[inlet] = k
                found.append(inlet)
        targets.append(tuple(found))
    result = []
    for k, (place, channel) in enumerate(spots):
        state = net[place]
        gate = state[0] in ("and", "or")
        if gate:
            held = (state[3] != 0) + (state[4] != 0)
        else:
            held = int({"cross": state[-2:], "fork": (state[-2],)}.get(state[0], (state[-1],))[channel] != 0)
        inlets = tuple(sources.get((k, inlet), -1) for inlet in range(2 if gate else 1))
        result.append((place, channel, inlets, targets[k], held))
    return result


class NodesTest(unittest.TestCase):
    def test_the_empty_net(self):
        self.assertEqual(nodes({}), [])
        self.assertEqual(handed({}, 80), [])
        self.assertEqual(last_step({}), 0)

    def test_one_cell_of_each_kind(self):
        cells = (
            (("wire", 0, 0), [(0, (-1,), ((-1, 0),), 0)]),
            (("wire", 1, 5), [(0, (-1,), ((-1, 0),), 1)]),
            (("not", 2, 0), [(0, (-1,), ((-1, 0),), 0)]),
            (("not", 2, 9), [(0, (-1,), ((-1, 0),), 1)]),
            (("fork", 3, 1, 0, 0), [(0, (-1,), ((-1, 0), (-1, 0)), 0)]),
            (("fork", 3, 1, 96, 2), [(0, (-1,), ((-1, 0), (-1, 0)), 1)]),
            (("cross", 0, 0, 0, 7), [(0, (-1,), ((-1, 0),), 0), (1, (-1,), ((-1, 0),), 1)]),
            (("cross", 0, 1, 7, 0), [(0, (-1,), ((-1, 0),), 1), (1, (-1,), ((-1, 0),), 0)]),
            (("and", 1, 0, 0, 0), [(0, (-1, -1), ((-1, 0),), 0)]),
            (("and", 1, 0, 0, 2), [(0, (-1, -1), ((-1, 0),), 1)]),
            (("or", 1, 1, 1, 0), [(0, (-1, -1), ((-1, 0),), 1)]),
            (("or", 1, 1, 1, 2), [(0, (-1, -1), ((-1, 0),), 2)]),
        )
        for state, rows in cells:
            expected = [((4, -7),) + tuple(items) for items in rows]
            self.assertEqual(nodes({(4, -7): state}), expected)

    def test_the_order_is_y_then_x_then_channel(self):
        net = {
            (5, 1): ("wire", 0, 0), (-3, 1): ("cross", 0, 0, 0, 0), (2, -4): ("wire", 1, 0), (9, -4): ("not", 0, 0),
            (0, 0): ("and", 0, 0, 0, 0),
        }
        got = [node[:2] for node in nodes(net)]
        self.assertEqual(got, [((2, -4), 0), ((9, -4), 0), ((0, 0), 0), ((-3, 1), 0), ((-3, 1), 1), ((5, 1), 0)])

    def test_a_net_by_hand(self):
        # A wire leads into a fork; its front leads into an and from the back, its side by way of
        # a not and a wire into the same and from the side.
        net = {
            (0, 1): ("wire", EAST, 9), (1, 1): ("fork", EAST, 0, 0, 0), (2, 1): ("wire", EAST, 0), (3, 1): ("and", EAST, 0, 0, 1),
            (1, 0): ("not", NORTH, 0), (1, -1): ("wire", EAST, 0), (2, -1): ("wire", EAST, 0), (3, -1): ("wire", SOUTH, 0),
            (3, 0): ("wire", SOUTH, 0),
        }
        self.assertEqual(nodes(net), [
            ((1, -1), 0, (3,), ((1, 0),), 0),
            ((2, -1), 0, (0,), ((2, 0),), 0),
            ((3, -1), 0, (1,), ((4, 0),), 0),
            ((1, 0), 0, (6,), ((0, 0),), 0),
            ((3, 0), 0, (2,), ((8, 1),), 0),
            ((0, 1), 0, (-1,), ((6, 0),), 1),
            ((1, 1), 0, (5,), ((7, 0), (3, 0)), 0),
            ((2, 1), 0, (6,), ((8, 0),), 0),
            ((3, 1), 0, (7, 4), ((-1, 0),), 1),
        ])

    def test_each_pair_of_cells_in_all_directions(self):
        givers = [("wire", d, 0) for d in range(4)] + [
            (kind, d, side, 0, 0) for kind in ("fork", "cross", "and", "or") for d in range(4) for side in (0, 1)
        ]
        takers = givers + [("not", d, 9) for d in range(4)]
        for giver in givers:
            for taker in takers:
                for dx, dy in STEPS:
                    net = {(0, 0): giver, (dx, dy): taker}
                    got = nodes(net)
                    self.assertEqual(got, nodes_by_the_rule(net))
                    for node in got:
                        self.assertEqual([type(part) for part in node], [tuple, int, tuple, tuple, int])

    def test_random_nets(self):
        rng = random.Random(71)
        found = 0
        for k in range(600):
            net = random_net(rng) if k % 2 else ring_of_cells(rng)
            before = dict(net)
            expected = nodes_by_the_rule(net)
            if expected is None:
                for asked in (nodes, last_step, lambda net: handed(net, 5)):
                    with self.assertRaises(TwoGivers):
                        asked(net)
            else:
                found += 1
                self.assertEqual(nodes(net), expected)
            self.assertEqual(net, before)
        self.assertTrue(200 < found < 590)

    def test_not_net(self):
        others = (
            ("join", 0, 0, 0, 0), ("reader", 0, 0, 0, 0, 0, 0), ("arm", 0, 0, 0, 0), ("arm", 0, 1, 0, 0), ("head", 0, 0, 0, 0),
            ("stretch", 0, 1), ("retreat", 0, 24, 1), ("port", 0, 0, 0), ("regrow", 0), ("fade",),
        )
        for state in others:
            for net in ({(0, 0): state}, {(0, 0): ("wire", 0, 0), (9, 9): state}, {(0, 0): state, (9, 9): ("wire", 0, 0)}):
                for asked in (nodes, last_step, lambda net: handed(net, 0), lambda net: handed(net, 80)):
                    with self.assertRaises(NotNet):
                        asked(net)

    def test_two_givers(self):
        pairs = (
            {(0, 0): ("wire", 0, 0), (1, 0): ("wire", 0, 0), (1, 1): ("wire", 1, 0)},
            {(0, 0): ("wire", 0, 0), (1, 0): ("fork", 0, 0, 0, 0), (1, 1): ("wire", 1, 0)},
            {(0, 0): ("wire", 3, 0), (0, 1): ("wire", 0, 9), (0, 2): ("not", 1, 0)},
            {(0, 0): ("fork", 0, 1, 0, 0), (1, 0): ("wire", 3, 0), (0, 1): ("wire", 0, 0), (1, 1): ("wire", 0, 0)},
        )
        for net in pairs:
            for quarters in range(4):
                with self.assertRaises(TwoGivers):
                    nodes(turned_pattern(net, quarters))
        for net in pairs:
            spoilt = dict(net)
            spoilt[50, 50] = ("port", 0, 0, 0)
            spoilt = {(x, y): state for (x, y), state in reversed(list(spoilt.items()))}
            for asked in (nodes, last_step, lambda net: handed(net, 3)):
                with self.assertRaises(NotNet):
                    asked(spoilt)
            spoilt = {(x - 99 if x == 50 else x, y): state for (x, y), state in net.items()}
            spoilt[-60, -60] = ("join", 0, 0, 0, 0)
            with self.assertRaises(NotNet):
                nodes(spoilt)

    def test_two_inlets_of_one_cell_may_have_a_giver_each(self):
        for kind in ("and", "or"):
            net = {(0, 0): ("wire", 0, 0), (1, 0): (kind, 0, 1, 0, 0), (1, 1): ("wire", 1, 0)}
            self.assertEqual([node[2] for node in nodes(net)], [(-1,), (0, 2), (-1,)])
        net = {(0, 0): ("wire", 0, 0), (1, 0): ("cross", 0, 0, 0, 0), (1, 1): ("wire", 1, 0)}
        self.assertEqual([node[2] for node in nodes(net)], [(-1,), (0,), (3,), (-1,)])


class HandedTest(unittest.TestCase):
    def test_a_row(self):
        self.assertEqual(handed(row([9, 0, 0]), 80), [((1,), (9,)), ((2,), (9,)), ((), ())])
        self.assertEqual(last_step(row([9, 0, 0])), 2)
        net = row([7, 8, 5, 0, 0])
        # The last two places fill up from the end.
        self.assertEqual(handed(net, 80), [((3,), (7,)), ((2, 4), (8, 7)), ((1, 3), (5, 8)), ((2,), (5,)), ((), ())])
        self.assertEqual(handed(net, 1), [((3,), (7,)), ((2,), (8,)), ((1,), (5,)), ((2,), (5,)), ((), ())])
        self.assertEqual(handed(net, 0), [((), ())] * 5)
        self.assertEqual(last_step(net), 4)

    def test_kinds_of_values(self):
        got = handed(row([7, 8, 5, 0, 0]), 80)
        self.assertIsInstance(got, list)
        for pair in got:
            self.assertEqual([type(part) for part in (pair,) + pair], [tuple] * 3)

    def test_a_not_hands_on_what_it_holds_as_it_is(self):
        for sym, after in ((8, 9), (9, 8), (5, 8), (96, 8), (1, 8)):
            net = {(0, 0): ("wire", 0, sym), (1, 0): ("not", 0, sym), (2, 0): ("wire", 0, 0), (3, 0): ("wire", 0, 0)}
            self.assertEqual(handed(net, 9)[1], ((1, 3), (sym, after)))

    def test_gates(self):
        for kind in ("and", "or"):
            for one in (1, 5, 8, 9, 96):
                for two in (1, 5, 8, 9, 96):
                    net = {
                        (0, 0): ("wire", 0, one), (1, 0): (kind, 0, 1, 0, 0), (2, 0): ("wire", 0, 0), (1, 1): ("wire", 1, two),
                    }
                    zeros = (one == 8) + (two == 8)
                    result = 9 if zeros == 0 or (kind == "or" and zeros == 1) else 8
                    self.assertEqual(handed(net, 9)[1], ((2,), (result,)))
                    self.assertEqual(last_step(net), 2)

    def test_gates_with_one_value(self):
        for kind in ("and", "or"):
            for value in (1, 2):
                net = {(0, 0): (kind, 0, 1, value, 0), (1, 0): ("wire", 0, 0), (0, 1): ("wire", 1, 9)}
                result = 9 if value == 2 or kind == "or" else 8
                self.assertEqual(handed(net, 9)[0], ((2,), (result,)))
                net = {(0, 0): (kind, 0, 1, value, 0), (1, 0): ("wire", 0, 0), (-1, 0): ("wire", 0, 9)}
                self.assertEqual(handed(net, 9), [((), ())] * 3)
                self.assertEqual(last_step(net), 0)

    def test_forks_that_have_sent(self):
        ends = {(1, 0): ("wire", 0, 0), (2, 0): ("wire", 0, 0), (0, -1): ("wire", 1, 0), (0, -2): ("wire", 1, 0)}
        net = {(-1, 0): ("wire", 0, 9), (0, 0): ("fork", 0, 0, 5, 0), **ends}
        # The nodes in order: the two to the north, the wire, the fork, the two to the east.
        self.assertEqual(handed(net, 9), [((), ()), ((2,), (5,)), ((2,), (9,)), ((1, 3), (5, 9)), ((2,), (5,)), ((), ())])
        net[0, 0] = ("fork", 0, 0, 5, 1)
        self.assertEqual(handed(net, 9)[3], ((1, 3), (5, 9)))
        self.assertEqual(handed(net, 9)[4], ((4,), (9,)))
        self.assertEqual(last_step(net), 4)
        net[0, 0] = ("fork", 0, 0, 5, 2)
        self.assertEqual(handed(net, 9)[3], ((1, 3), (5, 9)))
        self.assertEqual(handed(net, 9)[1], ((4,), (9,)))

    def test_a_fork_with_one_side_that_leads_nowhere(self):
        net = {(-1, 0): ("wire", 0, 9), (0, 0): ("fork", 0, 0, 5, 0), (1, 0): ("wire", 0, 0), (2, 0): ("wire", 0, 0)}
        # The front is given once; the symbol stays for the side, so nothing is handed on.
        self.assertEqual(handed(net, 9), [((), ()), ((), ()), ((2,), (5,)), ((), ())])
        self.assertEqual(last_step(net), 2)
        del net[2, 0]
        self.assertEqual(last_step(net), 1)
        net[0, 0] = ("fork", 0, 0, 5, 2)
        self.assertEqual(handed(net, 9), [((2,), (9,)), ((1,), (5,)), ((), ())])

    def test_rings(self):
        for many in range(9):
            net, path = wire_ring(3, 3, [10 + k for k in range(many)])
            order = [node[0] for node in nodes(net)]
            got = dict(zip(order, handed(net, 80)))
            if many in (0, 8):
                self.assertEqual(last_step(net), 0)
                self.assertEqual(set(got.values()), {((), ())})
            else:
                self.assertEqual(last_step(net), -1)
                heard, _ = watch(net, 80 * 20)
                for place in path:
                    steps, symbols = heard[place, 0]
                    self.assertEqual(got[place], (tuple(steps[:80]), tuple(symbols[:80])))
                    self.assertEqual(len(got[place][0]), 80)

    def compare(self, net, steps):
        heard, last = watch(net, steps)
        order = [node[:2] for node in nodes(net)]
        lengths = set()
        for most in (0, 1, 2, 7, 80):
            for spot, (times, symbols) in zip(order, handed(net, most)):
                known = [time for time in times if time <= steps]
                all_times, all_symbols = heard[spot]
                self.assertEqual(known, all_times[:most], net)
                self.assertEqual(list(symbols[:len(known)]), all_symbols[:most], net)
                self.assertEqual(len(times), len(symbols))
                lengths.add(len(times))
        told = last_step(net)
        if last < steps:
            self.assertEqual(told, last)
            self.assertTrue(is_still(run(net, told)))
        else:
            self.assertEqual(told, -1)
        return lengths

    def test_random_nets_do_in_a_run_what_is_told(self):
        rng = random.Random(72)
        lengths = set()
        for k in range(700):
            net = random_net(rng) if k % 4 == 0 else ring_of_cells(rng)
            try:
                nodes(net)
            except TwoGivers:
                continue
            lengths |= self.compare(net, 150)
        self.assertTrue({0, 1, 2, 3, 4, 5, 80} <= lengths, lengths)

    def test_rings_of_forks_that_have_sent(self):
        # Each fork on the ring is one symbol ahead at its side, and all go round for ever.
        for sent in (0, 1, 2):
            for symbol in (0, 9):
                net, path = wire_ring(6, 4, [])
                net[2, 0] = ("fork", 0, 1, symbol, sent if symbol else 0)
                net[2, 1] = ("wire", 3, 0)
                net[2, 2] = ("wire", 3, 0)
                net[2, 3] = ("and", 2, 1, 0, 0)
                net[0, 1] = ("wire", 1, 5)
                net[0, 0] = ("fork", 0, 1, 0, 0)
                try:
                    self.compare(net, 300)
                except TwoGivers:
                    self.fail("the net has one giver for each inlet")

    def test_long_rows_of_full_wires(self):
        for full, empty in ((79, 200), (80, 80), (80, 79), (80, 300), (40, 41)):
            net = row([9 + k % 5 for k in range(full)] + [0] * empty)
            engine = Engine(net)
            self.assertEqual(last_step(net), engine.settle(5000))
        self.assertEqual(last_step(row([9] * 300)), 0)
        self.assertEqual(last_step(row([9] * 300 + [0])), 300)
        self.assertEqual(last_step(row([9] * 300 + [0] * 80)), Engine(row([9] * 300 + [0] * 80)).settle(5000))
        self.assertEqual(len(handed(row([9] * 300 + [0] * 300), 80)[299][0]), 80)
        steps = handed(row([9] * 2000 + [0] * 2000), 80)[0][0]
        self.assertEqual(steps, (2000,))

    def test_80_and_81_symbols(self):
        self.assertEqual(last_step(row([9] * 80 + [0] * 81)), Engine(row([9] * 80 + [0] * 81)).settle(9999))
        self.assertNotEqual(last_step(row([9] * 80 + [0] * 81)), -1)
        self.assertEqual(last_step(row([9] * 81 + [0] * 80)), Engine(row([9] * 81 + [0] * 80)).settle(9999))
        self.assertNotEqual(last_step(row([9] * 81 + [0] * 80)), -1)
        self.assertEqual(last_step(row([9] * 81 + [0] * 81)), -1)
        self.assertEqual(last_step(row([9] * 500 + [0] * 81)), -1)

    def test_a_last_transfer_that_hands_nothing_on(self):
        # The side of the fork is given late, and the front never.
        net = {(k, 0): ("wire", 0, 0) for k in range(5)}
        net[0, 0] = ("wire", 0, 9)
        net[5, 0] = ("fork", 0, 0, 0, 0)
        net[5, -1] = ("wire", 1, 0)
        self.assertEqual(last_step(net), 6)
        self.assertEqual(handed(net, 9)[6], ((), ()))

    def test_all_four_directions(self):
        rng = random.Random(73)
        for _ in range(60):
            net = ring_of_cells(rng)
            try:
                order = [node[:2] for node in nodes(net)]
            except TwoGivers:
                continue
            told = dict(zip(order, handed(net, 20)))
            for quarters in (1, 2, 3):
                turned_net = turned_pattern(net, quarters)
                back = {next(iter(turned_pattern({place: ("fade",)}, quarters))): place for place in net}
                self.assertEqual(last_step(turned_net), last_step(net))
                for node, pair in zip(nodes(turned_net), handed(turned_net, 20)):
                    self.assertEqual(pair, told[back[node[0]], node[1]])


class LongerWiresTest(unittest.TestCase):
    """4.8: what a node hands on does not depend on how long the wires are."""

    def test_more_room_between_the_cells(self):
        rng = random.Random(74)
        compared = 0
        for _ in range(500):
            net = ring_of_cells(rng)
            try:
                order = [node[:2] for node in nodes(net)]
            except TwoGivers:
                continue
            told = dict(zip(order, [symbols for _, symbols in handed(net, 40)]))
            longer, new = with_room(net, rng.randint(-2, 5), rng.random() < 0.5)
            after = {node[:2]: symbols for node, (_, symbols) in zip(nodes(longer), handed(longer, 40))}
            for (place, channel), symbols in told.items():
                others = after[new[place], channel]
                shared = min(len(symbols), len(others))
                self.assertEqual(symbols[:shared], others[:shared])
                compared += shared
        self.assertTrue(compared > 2000, compared)


if __name__ == "__main__":
    unittest.main()
