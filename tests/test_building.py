"""Constructors in runs: what is in their way (6.15), their children (6.11, 6.16), and layouts (6.17)."""

import random
import unittest

from ramet.arm import done, gives
from ramet.body import body, body_box, built, machine, parked, road_of
from ramet.describe import describe
from ramet.engine import Engine
from ramet.feed import drain, feed
from ramet.kinds import written_state
from ramet.layout import lay_out
from ramet.machine import Machine
from ramet.own import born, goods, heir, own
from ramet.space import box, difference, moved, union
from ramet.tape import read_tape
from ramet.walker import meaning
from ramet.written import machine_of

from tests.kinfolk import numbers_of, own_tape

WIRE = ("wire", 0, 0)
# A reader that has just taken START: there is no copy of it.
BEGUN = ("reader", 0, 0, 2, 1, 2, 6)
# What may stand in the way: cells that stay as they are, and do not point to the road at its other places.
OBSTACLES = (
    WIRE, ("not", 3, 0), ("fork", 1, 0, 0, 0), ("cross", 2, 1, 0, 0), ("and", 3, 0, 0, 0), ("join", 3, 1, 1, 0),
    ("reader", 1, 0, 0, 1, 0, 0), ("head", 1, 1, 0, 0), ("arm", 1, 1, 0, 0), ("port", 1, 1, 0), ("wire", 1, 9),
)


def root_symbols(engine, a, corner, steps):
    """Return the pairs (step, symbol) at which the root of a constructor begins to hold a symbol."""
    held, seen = 0, []
    for step in range(1, steps + 1):
        engine.advance(1)
        root = engine.at((a + corner[0], 1 + corner[1]))
        now = root[4] if root is not None and root[0] == "arm" else 0
        if now != 0 and held == 0:
            seen.append((step, now))
        held = now
    return seen


class InTheWayTest(unittest.TestCase):
    def fades(self, tape, obstacles):
        """Run a tape with something on its road; return how many of its cells were built."""
        engine = Engine(union(obstacles, machine(tape)))
        a = numbers_of(tape)[3]
        commands = root_symbols(engine, a, (0, 0), done(tape) + 6 * len(tape) + 40)
        self.assertTrue(engine.is_idle())
        after = engine.pattern()
        own_cells = {place: state for place, state in after.items() if place not in obstacles and place[1] >= 0}
        self.assertEqual(own_cells, parked(tape))
        self.assertEqual({place: after.get(place) for place in obstacles}, obstacles)
        written = {place: state for place, state in after.items() if place not in obstacles and place[1] < 0}
        self.assertTrue(all(built(tape).get(place) == state for place, state in written.items()), written)
        # The commands behind the one at which the arm met the cell are not given.
        met = next(k for k, visited in enumerate(meaning(tape).visits) if any((x + a, y) in obstacles for x, y in visited))
        self.assertEqual([sym for _, sym in commands], list(tape[1:met + 2]))
        return len(written)

    def test_each_place_of_a_road(self):
        tape = describe({(3, -2): ("not", 1, 0), (-2, -2): WIRE, (0, -1): ("fork", 0, 1, 0, 0), (0, -3): ("or", 0, 1, 0, 0)})
        a = numbers_of(tape)[3]
        counts = []
        for place in road_of(tape):
            if place != (a, 0):
                counts.append(self.fades(tape, {place: WIRE}))
        self.assertEqual(sorted(set(counts)), [0, 1, 2])

    def test_each_kind_of_cell(self):
        tape = describe({(3, -2): ("not", 1, 0), (-2, -2): WIRE})
        a = numbers_of(tape)[3]
        for state in OBSTACLES:
            self.fades(tape, {(a, -2): state})
            self.fades(tape, {(a, -1): state})
            self.fades(tape, {(a - 1, -2): state})
            self.fades(tape, {(a + 2, -2): state})

    def test_several_cells(self):
        rng = random.Random(631)
        tape = heir({})
        road = [place for place in road_of(tape) if place[1] < 0]
        for _ in range(12):
            self.fades(tape, {rng.choice(road): WIRE for _ in range(rng.randint(1, 6))})

    def test_right_in_front_of_the_head(self):
        tape = read_tape("start d5 forth d5 w1 stop end")
        self.assertEqual(self.fades(tape, {(numbers_of(tape)[3], -1): ("cross", 0, 0, 0, 0)}), 0)
        self.assertEqual(self.fades(tape, {(numbers_of(tape)[3], -5): ("cross", 0, 0, 0, 0)}), 0)


class ChildTest(unittest.TestCase):
    def begins(self, tape, goes_on):
        """Run a machine until its child has begun, and has given some commands."""
        dx, dy = own(tape)
        _, n, w, a = numbers_of(tape)
        engine = Engine(machine(tape))
        engine.advance(1)
        self.assertEqual(engine.at((a, 2)), BEGUN)
        engine = Engine(machine(tape))
        engine.advance(born(tape) - 1)
        self.assertNotEqual(engine.at((a + dx, 2 + dy)), BEGUN)
        engine.advance(1)
        self.assertEqual(engine.at((a + dx, 2 + dy)), BEGUN)
        told = [(step, sym) for step, sym in zip(gives(tape), tape[1:-1])]
        begun = root_symbols(engine, a, (dx, dy), goes_on)
        # The engine stood at the step born(tape).
        self.assertEqual([(step + 1, sym) for step, sym in begun], [pair for pair in told if pair[0] <= goes_on + 1])
        self.assertTrue(len(begun) > 2)

    def test_a_whole_run_of_the_least_tape(self):
        tape = heir({})
        self.begins(tape, 400)
        engine = Engine(machine(tape))
        seen = root_symbols(engine, 22, (0, 0), done(tape) - 1)
        # Behind PORT comes the copy of the tape.
        self.assertEqual(seen[:len(tape) - 2], list(zip(gives(tape), tape[1:-1])))
        x0, y0, x1, y1 = body_box(tape)

        def parent():
            return {(x, y): state for (x, y), state in engine.pattern().items() if x0 <= x <= x1 and y0 <= y <= y1}

        self.assertNotEqual(parent(), parked(tape))
        for _ in range(60):
            engine.advance(1)
            self.assertEqual(parent(), parked(tape))

    def test_other_tapes(self):
        for tape in (
            heir({(0, 0): WIRE, (3, 2): ("fork", 1, 0, 0, 0), (1, 9): ("not", 0, 0)}), own_tape("d3 forth"),
            own_tape("d4 forth right d2 d0 forth left"), own_tape("forth left d3 forth right d5 forth"),
        ):
            self.begins(tape, 150)

    def test_done_of_tapes_of_their_own(self):
        # The last step at which the constructor's own cells change; in the second case its arm is long.
        for way in ("d4 forth", "d9 d0 forth", "d3 forth", "forth left d3 forth right d5 forth"):
            tape = own_tape(way)
            x0, y0, x1, y1 = body_box(tape)
            corner = own(tape)
            engine = Engine(machine(tape))
            engine.advance(done(tape) - 2)
            views = []
            for _ in range(40):
                childs = moved(body(numbers_of(tape)[1]), *corner)
                views.append({place: state for place, state in engine.pattern().items()
                              if place not in childs and (place[1] > corner[1] + 3 or x0 <= place[0] <= x1 and y0 <= place[1] <= y1)})
                engine.advance(1)
            self.assertNotEqual(views[0], views[2])
            self.assertNotEqual(views[1], views[2])
            for view in views[2:]:
                self.assertEqual(view, parked(tape))


class LineTest(unittest.TestCase):
    def goes_on(self, tape, generations):
        dx, dy = own(tape)
        engine = Engine(machine(tape))
        taken = 0
        for k in range(generations):
            step = k * (born(tape) - 1) + done(tape)
            engine.advance(step - taken)
            taken = step
            now = engine.pattern()
            for number in range(k + 1):
                mine = union(parked(tape), goods(tape))
                for place, state in moved(mine, number * dx, number * dy).items():
                    self.assertEqual(now.get(place), state, (k, number, place))

    def test_lines_of_machines(self):
        self.goes_on(heir({}), 4)
        self.goes_on(heir({(0, 0): ("and", 1, 0, 0, 0), (4, 0): WIRE, (4, 6): ("not", 2, 0)}), 3)
        self.goes_on(own_tape("d3 forth"), 3)
        self.goes_on(own_tape("d9 forth left d2 d1 forth right"), 3)


class LayoutTest(unittest.TestCase):
    def built_layout(self, layout, dx):
        """Return the tape for a layout whose last line is six places to the north of the head, and its move."""
        south = box(layout.pattern)[3]
        pattern = moved(layout.pattern, dx, -6 - south)
        tape = describe(pattern)
        self.assertEqual(meaning(tape).cells, pattern)
        return tape, (dx + numbers_of(tape)[3], -6 - south)

    def answers(self, table, words, dx=0):
        layout = lay_out(table)
        tape, (x, y) = self.built_layout(layout, dx)
        engine = Engine(machine(tape))
        engine.advance(done(tape))
        self.has_shape(engine.pattern(), layout, tape, (x, y))
        engine.advance(300)
        self.has_shape(engine.pattern(), layout, tape, (x, y))
        fed = feed(layout, words)
        for place in fed:
            if place not in layout.pattern:
                engine.put((place[0] + x, place[1] + y), fed[place])
        self.assertTrue(engine.settle(5000) > 0)
        after = moved(engine.pattern(), -x, -y)
        self.assertEqual(drain(layout, after, len(words)), table.run(words))
        constructors = {place: state for place, state in engine.pattern().items() if place[1] >= 0}
        self.assertEqual(constructors, parked(tape))

    def has_shape(self, pattern, layout, tape, corner):
        """Check the constructor's own cells, and the places, kinds, directions and sides of the layout."""
        self.assertEqual({place: state for place, state in pattern.items() if place[1] >= 0}, parked(tape))
        there = {place: state for place, state in pattern.items() if place[1] < 0}
        wanted = moved(layout.pattern, *corner)
        self.assertEqual(set(there), set(wanted))
        for place, state in wanted.items():
            items = 2 if state[0] in ("wire", "not") else 3
            self.assertEqual(there[place][:items], state[:items], place)

    def test_small_machines(self):
        odd = machine_of("machine 2 1 1\n0 0 -> 0 0\n0 1 -> 1 1\n1 0 -> 1 1\n1 1 -> 0 0\n")
        for dx in (-6, 0, 2):
            self.answers(odd, [(1,), (0,), (1,), (1,)], dx)
        self.answers(Machine(1, 1, 1, [(0, (1,)), (0, (0,))]), [(0,), (1,), (1,)])
        self.answers(Machine(1, 2, 1, [(0, (0,)), (0, (1,)), (0, (1,)), (0, (0,))]), [(1, 0), (1, 1), (0, 0)])
        self.answers(Machine(2, 0, 1, [(1, (0,)), (0, (1,))]), [(), (), (), ()])
        self.answers(Machine(1, 0, 1, [(0, (1,))]), [(), ()])

    def test_a_machine_with_two_state_bits(self):
        rows = [(k, (k % 2,)) if bit == 0 else ((k + 1) % 3, ((k + 1) % 2,)) for k in range(3) for bit in range(2)]
        self.answers(Machine(3, 1, 1, rows), [(1,), (1,), (0,), (1,)])

    def test_random_machines(self):
        rng = random.Random(632)
        for _ in range(6):
            inputs, outputs = rng.randint(0, 1), rng.randint(1, 2)
            rows = [(rng.randrange(2), tuple(rng.randrange(2) for _ in range(outputs))) for _ in range(2 * 2 ** inputs)]
            words = [tuple(rng.randrange(2) for _ in range(inputs)) for _ in range(3)]
            self.answers(Machine(2, inputs, outputs, rows), words, rng.randint(-9, 3))

    def test_a_layout_is_not_still(self):
        layout = lay_out(machine_of("machine 2 1 1\n0 0 -> 0 0\n0 1 -> 1 1\n1 0 -> 1 1\n1 1 -> 0 0\n"))
        tape, corner = self.built_layout(layout, 0)
        engine = Engine(machine(tape))
        engine.advance(done(tape))
        self.assertNotEqual(difference(engine.pattern(), union(parked(tape), moved(layout.pattern, *corner))), [])
        self.assertEqual(written_state(7), ("wire", 1, 8))


if __name__ == "__main__":
    unittest.main()
