"""Tapes of their own (6.10, 6.11), and the tapes that `heir` finds (6.12, 6.13)."""

import random
import unittest

from ramet import errors
from ramet.arm import gives
from ramet.body import body, built
from ramet.errors import BadRing, BadTape, NoRoom, NotOwn, NotWritten
from ramet.kinds import written_state
from ramet.own import born, goods, heir, own
from ramet.space import box, moved
from ramet.tape import read_tape, tape_line
from ramet.walker import meaning

from tests.kinfolk import NO_TAPES, REFUSED, child_of, numbers_of, own_tape, told_gives, told_heir
from tests.walks import Walk

WIRE = ("wire", 0, 0)
SMALL = {(0, 0): WIRE, (2, 1): ("fork", 3, 1, 0, 0), (1, 1): ("or", 2, 0, 0, 0)}


def with_good(x, y, state=WIRE):
    """Return a change for `own_tape`: one more cell, counted from the child's corner."""
    def change(cells, _, a):
        cells[x - a, y - 4] = state
    return change


def behind_east(x, y):
    """Return a change: one more cell, x columns to the east of the child's last one, y lines below its first one."""
    def change(cells, w, a):
        cells[w - 1 + x - a, y - 4] = WIRE
    return change


def without(x, y):
    def change(cells, _, a):
        del cells[x - a, y - 4]
    return change


class OwnTest(unittest.TestCase):
    def is_own(self, tape):
        self.assertEqual(own(tape), child_of(tape))
        self.assertEqual(Walk(tape).direction, 1)
        dx, dy = own(tape)
        _, n, w, _ = numbers_of(tape)
        child = moved(body(n), dx, dy)
        found = goods(tape)
        self.assertEqual({place: built(tape)[place] for place in child}, child)
        self.assertEqual({place: state for place, state in built(tape).items() if place not in child}, found)
        self.assertEqual(len(built(tape)), len(child) + len(found))

    def is_not_own(self, tape):
        self.assertIsNone(own(tape))
        for function in (goods, born):
            with self.assertRaises(NotOwn):
                function(tape)

    def test_tapes_that_heir_gives(self):
        for pattern in ({}, {(0, 0): WIRE}, {(-7, 40): ("not", 2, 0)}, SMALL, {(0, y): WIRE for y in range(12)}):
            self.is_own(heir(pattern))
            self.assertEqual(own(heir(pattern))[0], 0)

    def test_tapes_on_other_ways(self):
        for way, change, wanted in (
            ("d4 forth", None, (0, -8)),
            ("d3 forth", None, (0, -7)),
            ("d9 d0 forth", None, (0, -148)),
            ("d4 forth left d9 forth right", None, (-9, -8)),
            ("d4 forth right d2 d0 forth left", None, (32, -8)),
            ("forth left d3 forth right d5 forth", None, (-3, -10)),
            ("d4 forth", behind_east(2, 1), (0, -8)),
        ):
            tape = own_tape(way, change)
            self.is_own(tape)
            self.assertEqual(own(tape), wanted)
            self.assertIsInstance(own(tape), tuple)

    def test_the_direction_at_the_end(self):
        for tail in ("left", "right", "left left", "right d2 left left"):
            self.is_not_own(own_tape("d4 forth", tail=tail))
        for tail in ("left right", "left left left left", "d3", "d9 d9 d9"):
            self.is_own(own_tape("d4 forth", tail=tail))

    def test_the_length_of_the_trail(self):
        self.is_own(own_tape("d3 forth"))
        self.assertEqual(len(meaning(own_tape("d3 forth")).trail), 4)
        self.is_not_own(own_tape("d2 forth"))
        self.is_not_own(own_tape("forth"))
        # Short ways that do not lead straight on.
        self.is_own(own_tape("forth left d2 forth right"))
        self.is_not_own(own_tape("forth left forth right"))

    def test_the_cells_in_the_childs_box(self):
        for x, y in ((0, 2), (0, 3), (5, 2), (5, 3)):
            self.is_not_own(own_tape("d4 forth", without(x, y)))
        for state in (WIRE, ("head", 1, 1, 0, 0), ("wire", 2, 8)):
            for x, y in ((0, 0), (0, 1), (3, 1)):
                self.is_not_own(own_tape("d4 forth", with_good(x, y, state)))
        for state in (WIRE, ("wire", 1, 8), ("not", 1, 0), ("join", 1, 0, 0, 0)):
            self.is_not_own(own_tape("d4 forth", with_good(0, 3, state)))

        def other_reader(cells, _, __):
            cells[0, -2] = ("reader", 0, 1, 0, 1, 0, 0)

        def without_arm(cells, _, __):
            del cells[0, -3]

        def without_head(cells, _, __):
            del cells[0, -4]

        def without_last(cells, w, a):
            del cells[w - 1 - a, -2]

        for change in (other_reader, without_arm, without_head, without_last):
            self.is_not_own(own_tape("d4 forth", change))

    def test_a_ring_for_another_tape(self):
        # Two symbols more in front of the port, so the child's ring is too small.
        tape = heir({})
        self.is_own(tape)
        self.is_not_own(tape[:-2] + (8, 8) + tape[-2:])
        self.is_not_own(tape[:1] + (8,) + tape[1:])

    def test_the_numbers_of_goods(self):
        for number in (1, 5, 12, 13, 24, 32, 40, 47, 48):
            self.is_own(own_tape("d4 forth", with_good(-3, 1, written_state(number))))
        for number in (49, 50, 56, 57, 64, 66, 67, 69, 70, 72):
            self.is_not_own(own_tape("d4 forth", with_good(-3, 1, written_state(number))))

    def test_goods_next_to_the_childs_box(self):
        # To the west of each line, in contact and one column further away.
        for y in range(4):
            self.is_not_own(own_tape("d4 forth", with_good(-1, y)))
            self.is_own(own_tape("d4 forth", with_good(-2, y)))
            self.is_not_own(own_tape("d4 forth", behind_east(1, y)))
            self.is_own(own_tape("d4 forth", behind_east(2, y)))
        # To the north, apart from the middle, and at the corners.
        self.is_not_own(own_tape("d4 forth", with_good(0, -1)))
        self.is_not_own(own_tape("d4 forth", behind_east(0, -1)))
        self.is_own(own_tape("d4 forth", with_good(0, -2)))
        self.is_own(own_tape("d4 forth", with_good(-1, -1)))
        self.is_own(own_tape("d4 forth", behind_east(1, -1)))

    def test_goods_to_the_south_of_the_childs_box(self):
        # What is put down on the way to the child, in contact with its box or one line further away.
        self.is_not_own(own_tape("d4 forth right d2 forth w1 w0 left"))
        self.is_own(own_tape("d3 forth right d2 forth w1 w0 left forth"))

    def test_goods_on_the_childs_road(self):
        def in_the_middle(up, aside, state=WIRE):
            def change(cells, _, __):
                cells[aside, -4 - up] = state
            return change

        for up in (1, 2, 3):
            for aside in (0, 1, -1):
                self.is_not_own(own_tape("d4 forth", in_the_middle(up, aside)))
        for up in (2, 3):
            for aside in (2, -2, 3):
                self.is_own(own_tape("d4 forth", in_the_middle(up, aside)))
        # Above the end of the child's road, and next to its end: the child's road goes as far as that of its parent.
        far = own_tape("d3 forth", in_the_middle(20, 3))
        self.assertIsNone(own(own_tape("d3 forth", in_the_middle(20, 0))))
        self.is_own(far)
        # The line of the goods of the child, three lines below: a good there is in the way of the child.
        def two_goods(apart):
            def change(cells, _, __):
                cells[2, -4 - 20] = WIRE
                cells[2, -4 - 20 + apart] = WIRE
            return change

        self.is_own(own_tape("d3 forth", two_goods(4)))

    def test_goods_where_the_child_works(self):
        # With a child at (0, -7), what stands at the height -y - 7 lies on the line that the child works at height -y.
        def change_of(high, low, x):
            def change(cells, _, __):
                cells[x, -3 - low] = WIRE
                cells[x, -3 - high] = WIRE
            return change

        # Counted from the head, the goods stand at -3 - low - 3 and -3 - high - 3.
        for apart, wanted in ((6, False), (7, False), (8, False), (5, True), (9, True)):
            tape = own_tape("d3 forth", change_of(10 + apart, 10, 3))
            self.assertEqual(own(tape) is not None, wanted, apart)

    def test_the_trail_and_the_childs_road(self):
        # The way goes far around. In the second case it comes back under the child's road.
        beside = own_tape("d3 d12 forth left d5 d0 forth left d1 d14 forth right d3 d12 forth right")
        self.is_own(beside)
        across = own_tape("d3 d12 forth left d10 d0 forth left d1 d14 forth left d3 d2 forth left")
        self.is_not_own(across)
        dx, dy = child_of(across)
        walk = Walk(across)
        a = numbers_of(across)[3]
        met = [place for place in walk.trail[1:] if (place[0] - dx, place[1] - dy) in walk.seen]
        self.assertTrue(met)
        # Nothing else is wrong with it: the child's box has exactly the body, and there are no goods.
        child = moved(body(numbers_of(across)[1]), dx, dy)
        self.assertEqual(built(across), child)
        self.assertEqual((walk.direction, len(walk.trail) >= 4, a > 0), (1, True, True))

    def test_stop_and_what_is_refused(self):
        for line in ("start stop end", "start port end", "start d4 forth port end"):
            self.is_not_own(read_tape(line))
        self.is_not_own(heir({})[:-2] + (5, 7))
        for value in NO_TAPES:
            for function in (own, goods, born):
                with self.assertRaises(BadTape):
                    function(value)
        for line, error in REFUSED.items():
            for function in (own, goods, born):
                with self.assertRaises(getattr(errors, error)):
                    function(read_tape(line))

    def test_goods_are_new(self):
        tape = heir(SMALL)
        first = goods(tape)
        wanted = dict(first)
        first.clear()
        self.assertEqual(goods(tape), wanted)
        self.assertEqual(goods(heir({})), {})


class BornTest(unittest.TestCase):
    def test_the_formula(self):
        # M = 43, n = 92, a = 22, and the trail has five entries at the end.
        tape = heir({})
        self.assertEqual(gives(tape)[-1], 1596)
        self.assertEqual(born(tape), 1596 + 15 + 4 + 44 + 92)
        for tape in (heir(SMALL), heir({(0, 0): WIRE, (30, 4): WIRE}), own_tape("d9 d0 forth"), own_tape("forth left d3 forth right d5 forth")):
            _, n, _, a = numbers_of(tape)
            self.assertEqual(born(tape), told_gives(tape)[-1] + 3 * len(Walk(tape).trail) + 4 + 2 * a + n)


class HeirTest(unittest.TestCase):
    def test_the_empty_pattern_symbol_by_symbol(self):
        self.assertEqual(
            tape_line(heir({})),
            "start d8 forth w70 w66 left d1 d6 forth d1 d6 w1 right right d1 d7 forth w4 d1 d6 w1 left w57 "
            "left d1 d6 forth w2 d1 d5 w3 right right d1 d7 forth d1 d7 w3 left w53 port end",
        )
        self.assertEqual(len(heir({})), 43)
        self.assertEqual(numbers_of(heir({})), (43, 92, 46, 22))
        self.assertEqual(own(heir({})), (0, -8))
        self.assertEqual(goods(heir({})), {})

    def test_one_cell_symbol_by_symbol(self):
        # M = 45, n = 96, w = 48, a = 23: the wire stands at (49, -5), two places to the east of the child's last wire.
        tape = heir({(5, 5): WIRE})
        self.assertEqual(
            tape_line(tape),
            "start d8 forth w70 w66 left d1 d7 forth d1 d7 w1 right right d1 d8 forth w4 d1 d7 w1 left w57 "
            "left d1 d7 forth w2 d1 d6 w3 right right d1 d10 forth w1 w0 d1 d8 w3 left w53 port end",
        )
        self.assertEqual(own(tape), (0, -8))
        self.assertEqual(goods(tape), {(49, -5): WIRE})

    def test_where_the_goods_stand(self):
        rng = random.Random(621)
        for _ in range(40):
            width, height = rng.randint(1, 12), rng.randint(1, 14)
            x0, y0 = rng.choice([0, -9, 300, -99000]), rng.choice([0, -9, 300, 99000])
            pattern = {
                (x0 + rng.randint(0, width), y0 + rng.randint(0, height)): written_state(rng.randint(1, 48))
                for _ in range(rng.randint(1, 12))
            }
            kept = dict(pattern)
            tape = heir(pattern)
            self.assertEqual(pattern, kept)
            self.assertEqual(tape, told_heir(pattern))
            west, north, _, south = box(pattern)
            far = max(8, south - north + 1 + 2)
            self.assertEqual(own(tape), (0, -far))
            self.assertEqual(goods(tape), moved(pattern, numbers_of(tape)[2] + 1 - west, 3 - far - south))
            self.assertEqual(heir(moved(pattern, 17, -5)), tape)

    def test_how_far_the_child_stands(self):
        for lines, wanted in ((1, 8), (5, 8), (6, 8), (7, 9), (8, 10), (20, 22), (60, 62)):
            tape = heir({(0, 0): WIRE, (0, lines - 1): WIRE})
            self.assertEqual(own(tape), (0, -wanted), lines)
            self.assertEqual(tape, told_heir({(0, 0): WIRE, (0, lines - 1): WIRE}))

    def test_n_is_found_step_by_step(self):
        # The first ring does not fit, nor does the second one: longer rings need longer tapes.
        for many in range(1, 30):
            pattern = {(2 * k, 0): written_state(1 + k % 3) for k in range(many)}
            tape = heir(pattern)
            self.assertEqual(tape, told_heir(pattern))
            self.assertEqual(len(goods(tape)), many)

    def test_a_symbol_may_be_put_down(self):
        tape = heir({(0, 0): ("wire", 0, 9)})
        self.assertEqual(list(goods(tape).values()), [("wire", 0, 9)])

    def test_not_written(self):
        for state in (
            ("wire", 0, 7), ("wire", 0, 10), ("not", 0, 8), ("and", 0, 0, 1, 0), ("join", 0, 0, 0, 0), ("join", 3, 1, 0, 0),
            ("join", 0, 0, 1, 0), ("reader", 0, 0, 0, 1, 0, 0), ("reader", 0, 0, 1, 1, 0, 0), ("arm", 0, 1, 0, 0), ("head", 0, 1, 0, 0),
            ("head", 0, 0, 0, 0), ("stretch", 0, 1), ("port", 0, 0, 0), ("fade",), ("regrow", 2), ("retreat", 0, 24, 1),
        ):
            for pattern in ({(0, 0): state}, {(0, 0): WIRE, (1, 0): state}, {(0, 0): state, (1, 0): WIRE}, {(0, 0): state, (500, 0): WIRE}):
                with self.assertRaises(NotWritten):
                    heir(pattern)

    def test_no_room_and_bad_ring(self):
        # With so many commands the ring would be too long; but too many lines or columns are noticed first.
        full = {(k, y): written_state(1 + (k + y) % 2) for k in range(200) for y in range(4)}
        with self.assertRaises(BadRing):
            heir(full)
        with self.assertRaises(NoRoom):
            heir({**full, (200, 0): WIRE})
        with self.assertRaises(NoRoom):
            heir({**full, (-1, 0): WIRE})
        tall = {(y, x): state for (x, y), state in full.items()}
        with self.assertRaises(BadRing):
            heir(tall)
        with self.assertRaises(NoRoom):
            heir({**tall, (0, 200): WIRE})
        with self.assertRaises(NoRoom):
            heir({**tall, (0, -1): WIRE})
        for pattern in ({(0, 0): WIRE, (200, 0): WIRE}, {(0, 0): WIRE, (0, 200): WIRE}, {(0, 0): WIRE, (90000, 0): WIRE}):
            with self.assertRaises(NoRoom):
                heir(pattern)

    def test_what_too_many_commands_lead_to(self):
        def block(many):
            return {(k % 10, k // 10): written_state(1 + k % 2) for k in range(many)}

        seen = []
        for many in range(150, 400, 3):
            try:
                heir(block(many))
                seen.append("")
            except (BadTape, BadRing, NoRoom) as error:
                seen.append(type(error).__name__)
        # First the tapes fit, then the goods are out of reach, then there are more than 400 symbols, then 1000 cells.
        order = ["", "NoRoom", "BadTape", "BadRing"]
        self.assertEqual(seen, sorted(seen, key=order.index))
        self.assertEqual(set(seen), set(order))

    def test_what_meaning_raises(self):
        # Out of reach of the arm, to the east and to the north.
        for pattern in ({(0, 0): WIRE, (199, 0): WIRE}, {(0, 0): WIRE, (0, 199): WIRE}, {(0, 0): WIRE, (0, 101): WIRE}):
            with self.assertRaises(NoRoom):
                heir(pattern)
        # So many places that the road is too long: each of the lines is in reach.
        lines = [{(0, 0): WIRE, **{(60, y): WIRE for y in range(many)}} for many in (5, 30)]
        self.assertEqual(len(goods(heir(lines[0]))), 6)
        with self.assertRaises(NoRoom):
            heir(lines[1])


if __name__ == "__main__":
    unittest.main()
