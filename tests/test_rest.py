"""When a constructor gives its commands, and when it is at rest (6.6 to 6.9, 6.18), told and in runs."""

import random
import unittest

from ramet import errors
from ramet.arm import done, gives, rest_of
from ramet.body import body_box, built, machine, parked, road_of
from ramet.describe import describe
from ramet.engine import Engine
from ramet.errors import BadTape, NotOwn, NotStill
from ramet.kinds import written_state
from ramet.space import is_still, union
from ramet.tape import read_tape

from tests.kinfolk import NO_TAPES, REFUSED, numbers_of, own_tape, told_done, told_gives
from tests.test_body import random_tapes

NOTHING = read_tape("start stop end")
# What this tape means is not still: a symbol goes from one wire to the next.
MOVING = describe({(3, -1): ("wire", 0, 9), (4, -1): ("wire", 0, 0)})


class GivesTest(unittest.TestCase):
    def test_command_by_command(self):
        for line, wanted in (
            ("start stop end", (4,)),
            ("start port end", (4,)),
            ("start d2 stop end", (4, 8)),
            ("start d0 d0 d0 port end", (4, 8, 12, 16)),
            ("start left stop end", (4, 8)),
            ("start right left stop end", (4, 8, 12)),
            ("start forth stop end", (4, 11)),
            ("start d0 forth stop end", (4, 8, 15)),
            ("start d1 forth stop end", (4, 8, 15)),
            # FORTH twice, while the trail has one entry: 2 + 6 + 2. The write finds three entries: 6 + 1 + 2.
            ("start d2 forth w1 stop end", (4, 8, 18, 27)),
            # A turn finds three entries, the digit as well, and so does the write: 6 + 2 + 2.
            ("start d2 forth left d2 w0 stop end", (4, 8, 18, 26, 34, 44)),
            ("start forth forth w0 w0 port end", (4, 11, 20, 29, 36)),
            # 200 steps at once: 2 + 600 + 2; 201 entries are found by two digits and 200 writes.
            ("start d12 d8 forth d12 d8 w0 stop end", (4, 8, 12, 616, 1020, 1424, 2028)),
            # A digit that a turn makes void counts as a digit all the same.
            ("start d9 left right forth stop end", (4, 8, 12, 16, 23)),
            # Three digits: the count stays at 255, of 400 entries that there are.
            (
                "start d12 d8 forth left d12 d8 forth d15 d15 d15 w0 stop end",
                (4, 8, 12, 616, 1020, 1424, 1828, 2832, 3636, 4440, 5244, 6303),
            ),
        ):
            self.assertEqual(gives(read_tape(line)), wanted, line)

    def test_one_item_for_each_command_and_one_more(self):
        for tape in random_tapes(611, 100):
            self.assertEqual(gives(tape), tuple(told_gives(tape)))
            self.assertEqual(len(gives(tape)), len(tape) - 2)

    def test_in_runs_the_root_holds_each_command(self):
        tapes = [tape[:-2] + (5, 7) for tape in random_tapes(612, 60)]
        tapes += [read_tape("start d12 d8 forth d12 d8 w0 stop end"), read_tape("start forth d9 left d0 forth d0 stop end"), NOTHING]
        for tape in tapes:
            a = numbers_of(tape)[3]
            engine = Engine(machine(tape))
            held, seen = 0, []
            for step in range(1, done(tape) + 200):
                engine.advance(1)
                root = engine.at((a, 1))
                now = root[4] if root is not None and root[0] == "arm" else 0
                if now != 0 and held == 0:
                    seen.append((step, now))
                held = now
            self.assertEqual(seen, list(zip(gives(tape), tape[1:-1])))


class DoneTest(unittest.TestCase):
    def test_the_example(self):
        self.assertEqual(gives(NOTHING), (4,))
        self.assertEqual(told_done(NOTHING), (7, 15, 13))
        self.assertEqual(done(NOTHING), 15)
        self.assertEqual(rest_of(NOTHING), parked(NOTHING))

    def test_each_number_is_the_greatest_one(self):
        # M is 5 and n 16; nine steps make ten entries.
        long_arm = read_tape("start d9 forth stop end")
        self.assertEqual(told_done(long_arm), (39 + 21, 39 + 13, 17))
        self.assertEqual(done(long_arm), 60)
        # As long an arm, drawn back again, and more symbols.
        drawn_back = read_tape("start d9 forth d9 w0 stop end")
        self.assertEqual(told_done(drawn_back)[1], max(told_done(drawn_back)))
        self.assertEqual(done(drawn_back), told_done(drawn_back)[1])

    def test_with_a_port(self):
        near = own_tape("d4 forth")
        self.assertEqual(told_done(near)[1], max(told_done(near)))
        self.assertEqual(done(near), told_done(near)[1])
        far = own_tape("d9 d0 forth")
        self.assertEqual(told_done(far)[0], max(told_done(far)))
        self.assertEqual(done(far), told_done(far)[0])

    def test_the_third_numbers_are_never_the_greatest(self):
        # They are below the others for each tape, because t is at least 4 * M - 8 and L at least 1.
        for tape in [NOTHING, own_tape("d3 forth"), own_tape("d9 d0 forth")] + random_tapes(613, 100):
            self.assertTrue(told_done(tape)[2] < max(told_done(tape)))

    def test_random_tapes(self):
        for tape in random_tapes(614, 100):
            if 4 in tape:
                self.assertEqual(gives(tape), tuple(told_gives(tape)))
                with self.assertRaises(NotOwn):
                    done(tape)
            else:
                self.assertEqual(done(tape), max(told_done(tape)))


class RestTest(unittest.TestCase):
    def test_parked_and_built(self):
        for pattern in (
            {}, {(0, -1): ("wire", 0, 0)}, {(x, -y): written_state(17 + x) for x in range(9) for y in range(2, 5)},
            {(5, -3): ("wire", 0, 8), (-4, -2): ("head", 2, 1, 0, 0)}, {(3, -1): ("arm", 0, 1, 0, 0)},
        ):
            tape = describe(pattern)
            self.assertTrue(is_still(pattern))
            self.assertEqual(rest_of(tape), union(parked(tape), built(tape)))
            self.assertEqual(len(rest_of(tape)), numbers_of(tape)[1] + 2 + len(pattern))

    def test_new_dicts(self):
        tape = describe({(0, -1): ("wire", 0, 0)})
        first = rest_of(tape)
        wanted = dict(first)
        first.clear()
        self.assertEqual(rest_of(tape), wanted)

    def test_not_still(self):
        one_to_the_south = ("wire", 3, 9)
        for pattern in (
            {(3, -1): ("wire", 0, 9), (4, -1): ("wire", 0, 0)},
            {(0, -2): one_to_the_south, (0, -1): ("not", 3, 0)},
            {(0, -2): one_to_the_south, (0, -1): ("and", 3, 0, 0, 0)},
            {(0, -2): one_to_the_south, (0, -1): ("join", 2, 1, 0, 0), (1, -1): ("wire", 0, 0)},
            {(0, -2): one_to_the_south, (0, -1): ("reader", 3, 1, 0, 1, 0, 0)},
        ):
            self.assertFalse(is_still(pattern))
            with self.assertRaises(NotStill):
                rest_of(describe(pattern))
        for pattern in (
            {(0, -2): one_to_the_south, (0, -1): ("wire", 1, 8)},
            {(0, -2): one_to_the_south, (0, -1): ("join", 3, 0, 0, 0)},
            {(0, -2): one_to_the_south, (0, -1): ("head", 3, 1, 0, 0)},
            {(0, -2): ("arm", 0, 1, 0, 0), (1, -2): ("head", 0, 1, 0, 0)},
        ):
            self.assertTrue(is_still(pattern))
            self.assertEqual(rest_of(describe(pattern)), union(parked(describe(pattern)), built(describe(pattern))))

    def test_what_is_still_only_beside_the_constructor(self):
        # What is built is taken by itself: the symbol of a wire that points to the body may stay there.
        tape = describe({(0, -1): ("wire", 3, 8)})
        self.assertEqual(rest_of(tape), union(parked(tape), built(tape)))
        self.assertTrue(is_still(rest_of(tape)))

    def test_the_order_of_the_errors(self):
        with_port = MOVING[:-2] + (4, 7)
        with self.assertRaises(NotOwn):
            rest_of(with_port)
        with self.assertRaises(NotOwn):
            rest_of(own_tape("d4 forth"))
        for function in (rest_of, done):
            for tape in (MOVING[:-3] + (4, 7), read_tape("start port end"), own_tape("d2 forth")):
                with self.assertRaises(NotOwn):
                    function(tape)
        for line, error in REFUSED.items():
            for function in (rest_of, done, gives):
                for tape in (read_tape(line)[:-2] + (4, 7), read_tape(line)[:-2] + (5, 7)):
                    with self.assertRaises(getattr(errors, error)):
                        function(tape)
        for value in NO_TAPES:
            for function in (rest_of, done, gives):
                with self.assertRaises(BadTape):
                    function(value)
        # Refused, with a port, and not still: what meaning raises comes first.
        refused = MOVING[:-2] + (24, 24, 4, 7)
        with self.assertRaises(errors.InTheWay):
            rest_of(refused)


def empty_net_cells(rng, tape, many):
    """Return net cells that hold nothing, and are not near the road, the body or what is built (6.14)."""
    x0, y0, x1, y1 = body_box(tape)
    taken = set(road_of(tape)) | set(built(tape)) | {(x, y) for x in range(x0, x1 + 1) for y in range(y0, y1 + 1)}
    low, high = min(x for x, _ in taken), max(x for x, _ in taken)
    top = min(y for _, y in taken)
    cells = {}
    for _ in range(many):
        x, y = rng.randint(low - 3, high + 3), rng.randint(top - 3, y1 + 3)
        near = [(x, y), (x + 1, y), (x - 1, y), (x, y + 1), (x, y - 1)]
        if taken.isdisjoint(near):
            cells[x, y] = rng.choice([
                ("wire", rng.randint(0, 3), 0), ("not", rng.randint(0, 3), 0), ("fork", rng.randint(0, 3), rng.randint(0, 1), 0, 0),
                ("cross", rng.randint(0, 3), rng.randint(0, 1), 0, 0), ("and", rng.randint(0, 3), rng.randint(0, 1), 0, 0),
                ("or", rng.randint(0, 3), rng.randint(0, 1), 0, 0), ("join", rng.randint(0, 3), rng.randint(0, 1), rng.randint(0, 1), 0),
                ("reader", rng.randint(0, 3), rng.randint(0, 1), rng.choice([0, 1, 2, 3, 5, 6]), rng.randint(0, 2), 0, 0),
            ])
    return cells


class RunTest(unittest.TestCase):
    """6.14: what is there after `done` steps, after any more, and one step earlier."""

    def comes_to_rest(self, tape, others):
        wanted = union(others, rest_of(tape))
        engine = Engine(union(others, machine(tape)))
        engine.advance(done(tape) - 1)
        self.assertNotEqual(engine.pattern(), wanted, tape)
        self.assertEqual(engine.settle(2), 1, tape)
        self.assertEqual(engine.pattern(), wanted, tape)
        engine.advance(500)
        self.assertEqual(engine.pattern(), wanted, tape)

    def test_small_tapes(self):
        for line in (
            "start stop end", "start left stop end", "start forth stop end", "start d9 forth stop end", "start d9 forth d9 w0 stop end",
            "start forth w1 stop end", "start d2 forth w65 w69 stop end", "start d3 forth w65 w57 w61 stop end",
            "start d12 d8 forth stop end", "start d12 d8 forth d12 d8 w1 stop end", "start forth right forth w71 left w69 stop end",
        ):
            self.comes_to_rest(read_tape(line), {})

    def test_random_walks(self):
        rng = random.Random(615)
        many = 0
        for tape in random_tapes(616, 150):
            tape = tape[:-2] + (5, 7)
            if is_still(built(tape)):
                many += 1
                self.comes_to_rest(tape, {})
                self.comes_to_rest(tape, empty_net_cells(rng, tape, 80))
        self.assertTrue(many > 120, many)

    def test_described_patterns(self):
        rng = random.Random(617)
        for _ in range(25):
            pattern = {
                (rng.randint(-7, 7), -rng.randint(1, 8)): written_state(rng.choice([1, 2, 3, 4, rng.randint(1, 64)]))
                for _ in range(rng.randint(1, 20))
            }
            if is_still(pattern):
                tape = describe(pattern)
                self.comes_to_rest(tape, {})
                self.comes_to_rest(tape, empty_net_cells(rng, tape, 150))


if __name__ == "__main__":
    unittest.main()
