"""Families, told without runs (7.10 to 7.19, 7.22 to 7.24, 7.26)."""

import random
import unittest

from ramet import errors
from ramet.arm import done, rest_of
from ramet.body import body_box, machine, parked, room
from ramet.describe import describe
from ramet.errors import BadTape, BadWall, Crowded, Loaded, NoRoom, NoSuchKin, NotOwn, NotQuiet, NotStill, RametError, TooMany
from ramet.families import Families
from ramet.kin import halted_cells
from ramet.own import born, goods, heir, own
from ramet.space import is_pattern, moved, union
from ramet.tape import read_tape

from tests.clan import Clan, Wrong, random_family
from tests.kinfolk import NO_TAPES, REFUSED, numbers_of, own_tape

WIRE = ("wire", 0, 0)
FULL = ("wire", 0, 8)
NOTHING = read_tape("start stop end")
HEIR = heir({})
# With the corner (0, 0) its child begins at 1750 with the corner (0, -8), and works in the columns 0 to 45
# and the lines -16 to -5; its road is the column 22 and the lines -14 and -13.
BIRTH = 1750
OUT_OF_ALL_ROOMS = 10 ** 7
MOVING = {(3, -1): ("wire", 0, 9), (4, -1): WIRE}
# A worker that writes one wire with a symbol, six places to the north of its head.
LOADED = describe({(0, -6): ("wire", 1, 8)})


def worker_done_at(step):
    """Return a worker's tape whose `done` is this step: it waits, stretches its arm, and draws it back."""
    for steps in range(100, 180):
        for far in range(2):
            for near in range(12):
                digits = f"d{steps // 16} d{steps % 16} "
                tape = read_tape("start " + "d0 " * near + digits + "forth " + "d0 " * far + digits + "w0 stop end")
                if done(tape) == step:
                    return tape
    raise AssertionError(step)


def halts(starts, walls, until=OUT_OF_ALL_ROOMS):
    families = Families(starts, walls)
    families.grow(until)
    return [row[6] for row in families.machines()]


class StartTest(unittest.TestCase):
    def refuses(self, error, starts, walls=None):
        with self.assertRaises(error):
            Families(starts, {} if walls is None else walls)

    def test_tapes(self):
        for value in NO_TAPES:
            self.refuses(BadTape, [(value, (0, 0))])
        for line, error in REFUSED.items():
            self.refuses(getattr(errors, error), [(read_tape(line), (0, 0))])
        self.refuses(NotOwn, [(read_tape("start port end"), (0, 0))])
        self.refuses(NotOwn, [(own_tape("d2 forth"), (0, 0))])
        self.refuses(NotStill, [(describe(MOVING), (0, 0))])
        self.refuses(NotStill, [(heir(MOVING), (0, 0))])
        self.refuses(NotOwn, [(describe(MOVING)[:-2] + (4, 7), (0, 0))])

    def test_far_away(self):
        for tape in (NOTHING, HEIR, describe({(-9, -9): WIRE})):
            x0, y0, x1, y1 = room(tape)
            for x, y in ((-50000 - x0, 0), (50000 - x1, 0), (0, -50000 - y0), (0, 50000 - y1), (-50000 - x0, 50000 - y1)):
                self.assertEqual(Families([(tape, (x, y))], {}).machines()[0][3], (x, y))
            for x, y in ((-50001 - x0, 0), (50001 - x1, 0), (0, -50001 - y0), (0, 50001 - y1), (90000, 90000), (-90000, 0)):
                self.refuses(NoRoom, [(tape, (x, y))])

    def test_crowded(self):
        x0, y0, x1, y1 = room(HEIR)
        wide, high = x1 - x0 + 1, y1 - y0 + 1
        for x, y in ((0, 0), (wide, 0), (-wide, 0), (0, high), (0, -high), (wide, high - 1), (5, 5)):
            self.refuses(Crowded, [(HEIR, (0, 0)), (HEIR, (x, y))])
        for x, y in ((wide + 1, 0), (-wide - 1, 0), (0, high + 1), (0, -high - 1), (wide, high), (-wide, high), (wide, -high), (-wide, -high)):
            self.assertEqual(len(Families([(HEIR, (0, 0)), (HEIR, (x, y))], {}).machines()), 2)
        # Rooms count, not cells: this one has a place to the north of its body that it only passes.
        passing = read_tape("start d9 forth stop end")
        self.refuses(Crowded, [(passing, (0, 0)), (NOTHING, (0, -12))])
        self.assertEqual(len(Families([(passing, (0, 0)), (NOTHING, (0, -14))], {}).machines()), 2)
        self.refuses(Crowded, [(NOTHING, (50, 0)), (passing, (0, 0)), (HEIR, (100, 0)), (NOTHING, (0, 4))])

    def test_bad_walls(self):
        for state in (FULL, ("join", 0, 0, 1, 8), ("and", 0, 0, 0, 1), ("reader", 0, 0, 0, 0, 0, 0), ("arm", 0, 1, 0, 0), ("head", 0, 1, 0, 0), ("fade",)):
            self.refuses(BadWall, [], {(900, 900): state})
            self.refuses(BadWall, [(NOTHING, (0, 0))], {(900, 900): WIRE, (901, 900): state})
        for x, y in ((0, 0), (5, 0), (0, 3), (5, 3), (2, 1), (2, 2)):
            self.refuses(BadWall, [(NOTHING, (0, 0))], {(x, y): WIRE})
            self.refuses(BadWall, [(HEIR, (300, 0)), (NOTHING, (-40, 17))], {(x - 40, y + 17): ("join", 0, 0, 1, 0)})
        for x, y in ((-1, 0), (6, 0), (0, 4), (2, 4), (2, -1), (6, 4), (-1, -1)):
            self.assertEqual(len(Families([(NOTHING, (0, 0))], {(x, y): WIRE}).machines()), 1)

    def test_the_order_of_the_errors(self):
        far = (60000, 0)
        bad = {(0, 0): FULL}
        not_own, moving, refused = read_tape("start port end"), describe(MOVING), read_tape("start w1 stop end")
        # Of one start: its tape, then its room, then the rooms before it; behind all starts the walls.
        self.refuses(BadTape, [((6, 7), far)], bad)
        self.refuses(errors.InTheWay, [(refused, far)], bad)
        self.refuses(NotOwn, [(NOTHING, far), (not_own, far)][1:], bad)
        self.refuses(NotStill, [(NOTHING, (0, 0)), (moving, far)], bad)
        self.refuses(NoRoom, [(NOTHING, (49999, 0))], bad)
        self.refuses(NoRoom, [(NOTHING, (49990, 0)), (NOTHING, (49996, 0))], bad)
        self.refuses(Crowded, [(NOTHING, (0, 0)), (NOTHING, (0, 0))], bad)
        self.refuses(BadWall, [(NOTHING, (0, 0))], bad)
        # One start after the other.
        self.refuses(NoRoom, [(NOTHING, far), ((6, 7), (0, 0))])
        self.refuses(BadTape, [((6, 7), (0, 0)), (NOTHING, far)])
        self.refuses(Crowded, [(NOTHING, (0, 0)), (NOTHING, (1, 1)), (moving, (90, 0))])
        self.refuses(NotStill, [(NOTHING, (0, 0)), (moving, (90, 0)), (NOTHING, (1, 1))])
        self.refuses(NotOwn, [(NOTHING, (0, 0)), (not_own, (0, 0)), (refused, far)])

    def test_what_is_passed_stays_and_is_copied(self):
        starts, walls = [(NOTHING, (0, 0)), (HEIR, (100, 0))], {(300, 300): WIRE, (122, -9): ("not", 2, 0)}
        kept_starts, kept_walls = list(starts), dict(walls)
        families = Families(starts, walls)
        before = families.start()
        families.grow(9000)
        self.assertEqual((starts, walls), (kept_starts, kept_walls))
        told = families.machines(), families.space(9000)
        starts.clear()
        walls.clear()
        walls[22, -9] = FULL
        self.assertEqual((families.machines(), families.space(9000), families.start()), told + (before,))
        other = Families(kept_starts, kept_walls)
        kept_walls.clear()
        kept_starts.append((NOTHING, (-90, 0)))
        other.grow(9000)
        self.assertEqual((other.machines(), other.space(9000)), told)

    def test_more_starts_than_kin(self):
        families = Families([(NOTHING, (10 * k, 0)) for k in range(30)], {})
        families.grow(100)
        self.assertEqual(len(families.machines()), 30)
        self.assertTrue(families.is_quiet(15))

    def test_before_anything_has_happened(self):
        families = Families([(HEIR, (0, 0)), (NOTHING, (90, 7))], {(22, -1): WIRE})
        self.assertEqual(families.machines(), [(0, -1, 0, (0, 0), 0, done(HEIR), 0), (1, -1, 0, (90, 7), 0, 15, 0)])
        self.assertEqual(families.cells_of(0), parked(HEIR))
        families.grow(-1)
        self.assertEqual(families.machines()[0][6], 0)
        families.grow(0)
        self.assertEqual(families.machines()[0], (0, -1, 0, (0, 0), 0, done(HEIR) + 6 * 43 + 40, 2))


class GrowTest(unittest.TestCase):
    def test_a_birth(self):
        families = Families([(HEIR, (7, -3))], {})
        families.grow(BIRTH - 1)
        self.assertEqual(len(families.machines()), 1)
        families.grow(BIRTH)
        self.assertEqual(
            families.machines(),
            [(0, -1, 0, (7, -3), 0, done(HEIR), 0), (1, 0, 1, (7, -11), BIRTH, BIRTH + done(HEIR), 0)],
        )
        self.assertEqual(born(HEIR) - 1, BIRTH)

    def test_a_free_line(self):
        for tape in (HEIR, own_tape("d4 forth right d2 d0 forth left"), heir({(0, 0): FULL})):
            dx, dy = own(tape)
            families = Families([(tape, (5, 6))], {})
            with self.assertRaises(TooMany):
                families.grow(10 ** 9)
            rows = families.machines()
            self.assertEqual(len(rows), 24)
            for k, row in enumerate(rows):
                begin = k * (born(tape) - 1)
                self.assertEqual(row, (k, k - 1, k, (5 + k * dx, 6 + k * dy), begin, begin + done(tape), 0))

    def test_in_steps_and_at_once(self):
        rng = random.Random(711)
        for _ in range(12):
            starts, walls = random_family(rng)
            last = rng.randint(0, 9000)
            told = []
            for steps in ([last], [0, last], [last // 3, last // 2, last], [last // 2, 5, last, last], range(0, last + 1, max(1, last // 7))):
                families = Families(starts, walls)
                error = ""
                for until in list(steps) + [last]:
                    try:
                        families.grow(until)
                    except RametError as found:
                        error = type(found).__name__
                        break
                told.append((families.machines(), error))
            self.assertEqual(told, [told[0]] * 5)

    def test_too_many(self):
        starts = [(HEIR, (0, 0))] + [(NOTHING, (100 + 10 * k, 0)) for k in range(22)]
        families = Families(starts, {})
        families.grow(2 * BIRTH - 1)
        self.assertEqual(len(families.machines()), 24)
        with self.assertRaises(TooMany):
            families.grow(2 * BIRTH)
        self.assertEqual(len(families.machines()), 24)
        for many in (23, 24, 40):
            families = Families([(HEIR, (0, 0))] + [(NOTHING, (100 + 10 * k, 0)) for k in range(many)], {})
            families.grow(BIRTH - 1)
            with self.assertRaises(TooMany):
                families.grow(BIRTH)
            self.assertEqual(len(families.machines()), many + 1)

    def test_no_room_for_a_child(self):
        # The room of a machine begins 8 places to the north of its corner, that of its child 16.
        families = Families([(HEIR, (0, -49984))], {})
        families.grow(BIRTH)
        self.assertEqual(families.machines()[1][3], (0, -49992))
        with self.assertRaises(NoRoom):
            families.grow(2 * BIRTH)
        families = Families([(HEIR, (0, -49985))], {})
        with self.assertRaises(NoRoom):
            families.grow(BIRTH)
        self.assertEqual(len(families.machines()), 1)
        # Where there are also too many machines, the room comes first.
        families = Families([(HEIR, (0, -49985))] + [(NOTHING, (100 + 10 * k, 0)) for k in range(23)], {})
        with self.assertRaises(NoRoom):
            families.grow(BIRTH)
        east = own_tape("d4 forth right d2 d0 forth left")
        x1 = room(east)[2]
        families = Families([(east, (50000 - x1 - 32, 0))], {})
        families.grow(born(east) - 1)
        self.assertEqual(len(families.machines()), 2)
        families = Families([(east, (50000 - x1 - 31, 0))], {})
        with self.assertRaises(NoRoom):
            families.grow(born(east) - 1)

    def test_errors_again(self):
        families = Families([(HEIR, (0, -49984)), (NOTHING, (100, 0))], {})
        with self.assertRaises(NoRoom):
            families.grow(10 ** 6)
        told = families.machines()
        # What happened before the error stays.
        self.assertEqual(len(told), 3)
        for until in (2 * BIRTH, 2 * BIRTH + 1, 10 ** 9):
            with self.assertRaises(NoRoom):
                families.grow(until)
            self.assertEqual(families.machines(), told)
        for until in (2 * BIRTH - 1, BIRTH, 0, -5):
            families.grow(until)
            self.assertEqual(families.machines(), told)

    def test_errors_at_a_turn_again(self):
        families = Families([(NOTHING, (100, 0)), (LOADED, (0, 0)), (describe({(0, -2): WIRE}), (200, 0))], {(3, -7): WIRE, (204, -1): WIRE, (205, -1): WIRE})
        for until in (0, 5, 10 ** 6, 0):
            with self.assertRaises(Loaded):
                families.grow(until)
            # The later turn has not been.
            self.assertEqual([row[6] for row in families.machines()], [0, 0, 0])
            self.assertFalse(families.is_quiet(10))
        families.grow(-1)


class OrderTest(unittest.TestCase):
    """The order of events at equal times."""

    def test_turns_in_the_order_of_the_numbers(self):
        one_wire = describe({(0, -2): WIRE})
        a = numbers_of(one_wire)[3]
        first, second = (one_wire, (0, 0)), (LOADED, (200, 0))
        walls = {(a, -1): WIRE, (200, -8): WIRE, (206, -8): WIRE, (200 + numbers_of(LOADED)[3], -7): WIRE}
        families = Families([first, second], walls)
        with self.assertRaises(Loaded):
            families.grow(0)
        self.assertEqual([row[6] for row in families.machines()], [2, 0])
        families = Families([second, first], walls)
        with self.assertRaises(Loaded):
            families.grow(0)
        self.assertEqual([row[6] for row in families.machines()], [0, 0])

    def test_births_in_the_order_of_the_parents(self):
        families = Families([(HEIR, (0, 0)), (HEIR, (100, 0)), (HEIR, (200, 0))], {})
        families.grow(BIRTH)
        self.assertEqual([(row[1], row[3]) for row in families.machines()[3:]], [(0, (0, -8)), (1, (100, -8)), (2, (200, -8))])
        families.grow(2 * BIRTH)
        self.assertEqual([row[1] for row in families.machines()[6:]], [3, 4, 5])
        # The second one has no room for its child: the first one has its child, the third one has not.
        families = Families([(HEIR, (0, 0)), (HEIR, (100, -49990)), (HEIR, (200, 0))], {})
        with self.assertRaises(NoRoom):
            families.grow(BIRTH)
        self.assertEqual([row[1] for row in families.machines()], [-1, -1, -1, 0])

    def test_a_turn_before_a_birth_at_the_same_time(self):
        # The child of the first machine has its turn before the second machine's child is born.
        families = Families([(HEIR, (0, 0)), (HEIR, (100, -49990))], {(22, -9): WIRE})
        with self.assertRaises(NoRoom):
            families.grow(BIRTH)
        self.assertEqual([(row[1], row[6]) for row in families.machines()], [(-1, 0), (-1, 0), (0, 2)])
        # And the other way round: an error at that turn comes before the birth.
        slow = worker_done_at(BIRTH + 1)
        families = Families([(HEIR, (0, 0)), (HEIR, (100, 0)), (slow, (0, -14))], {})
        with self.assertRaises(Crowded):
            families.grow(BIRTH)
        self.assertEqual([row[1] for row in families.machines()], [-1, -1, -1, 0])

    def test_the_least_time_first(self):
        quick, slow = own_tape("d3 forth"), own_tape("d9 forth")
        self.assertTrue(born(quick) < born(slow) < 2 * born(quick))
        families = Families([(slow, (0, 0)), (quick, (200, 0))], {})
        families.grow(2 * born(quick))
        self.assertEqual([row[1] for row in families.machines()], [-1, -1, 1, 0, 2])


class NearTest(unittest.TestCase):
    """The things near a machine, and what they do (7.10, 7.14)."""

    def test_walls_at_the_border_of_the_room(self):
        # A machine that writes a symbol is refused if anything is near.
        x0, y0, x1, y1 = room(LOADED)
        edges = [(x0 - 1, 0), (x1 + 1, 0), (x0, y0 - 1), (x1, y1 + 1), (x0, y0), (x0 - 1, y1), (x1 + 1, y0), (x1, y0)]
        beyond = [(x0 - 2, 0), (x1 + 2, 0), (x0, y0 - 2), (x1, y1 + 2), (x0 - 1, y0 - 1), (x1 + 1, y1 + 1), (x0 - 1, y1 + 1), (x1 + 1, y0 - 1)]
        for x, y in edges:
            with self.assertRaises(Loaded):
                halts([(LOADED, (30, -20))], {(x + 30, y - 20): WIRE})
        for x, y in beyond:
            self.assertEqual(halts([(LOADED, (30, -20))], {(x + 30, y - 20): WIRE}), [0])
        self.assertEqual(halts([(LOADED, (30, -20))], {(x + 30, y - 20): WIRE for x, y in beyond}), [0])

    def test_walls_that_do_not_matter(self):
        rng = random.Random(712)
        starts = [(HEIR, (0, 0)), (describe({(3, -4): WIRE}), (100, 0))]
        walls = {(22, -17): WIRE, (100 + 3, -2): WIRE}
        families = Families(starts, walls)
        families.grow(20000)
        more = {}
        while len(more) < 60:
            x, y = rng.randint(-60, 160), rng.randint(-60, 30)
            if not (-2 < x < 47 and -30 < y < 6 or 98 < x < 120 and -7 < y < 6):
                more[x, y] = ("cross", 0, 0, 0, 0)
        others = Families(starts, union(more, walls))
        others.grow(20000)
        self.assertEqual(others.machines(), families.machines())
        self.assertEqual(others.space(20000), union(more, families.space(20000)))

    def test_the_halt(self):
        tape = read_tape("start d3 forth right d3 forth w1 w0 w0 left d2 forth w2 w0 stop end")
        a = numbers_of(tape)[3]
        self.assertEqual([tape[k] for k in (2, 5, 11)], [3, 3, 3])
        for x, y, halt in (
            # Each place of the road, by the FORTH that leads there first.
            (0, -1, 2), (0, -2, 2), (0, -3, 2), (1, -3, 5), (2, -3, 5), (3, -3, 5), (0, -4, 11), (0, -5, 11),
            # Beside the road, next to the head, and where the head begins to look.
            (1, -1, 0), (-1, -3, 0), (4, -3, 0), (0, -6, 0), (1, -4, 0), (3, -2, 0),
        ):
            for cx, cy in ((0, 0), (-300, 77)):
                self.assertEqual(halts([(tape, (cx, cy))], {(x + a + cx, y + cy): WIRE}), [halt], (x, y))
        self.assertEqual(halts([(tape, (0, 0))], {(a, -5): WIRE, (a + 1, -3): WIRE}), [5])
        self.assertEqual(halts([(tape, (0, 0))], {(a, -5): WIRE, (a + 1, -3): WIRE, (a, -3): WIRE}), [2])
        # A place that is passed by two of them.
        again = read_tape("start forth right d3 forth d3 w0 d3 forth w1 w1 w0 left w0 stop end")
        a = numbers_of(again)[3]
        self.assertEqual(halts([(again, (0, 0))], {(a + 2, -1): WIRE}), [4])

    def test_a_parent_that_is_halted(self):
        families = Families([(HEIR, (0, 0))], {(45, -5): WIRE})
        families.grow(10 ** 6)
        last = max(index for index, sym in enumerate(HEIR) if sym == 3)
        rest = done(HEIR) + 6 * 43 + 40
        self.assertEqual(families.machines(), [(0, -1, 0, (0, 0), 0, rest, last)])
        self.assertTrue(families.is_quiet(rest))
        self.assertEqual(families.cells_of(0), halted_cells(HEIR, last))

    def test_crowded_at_its_edge(self):
        # A worker that is over exactly when the child begins, and one that is over a step later.
        over, later = worker_done_at(BIRTH), worker_done_at(BIRTH + 1)
        for tape, corner, wanted in (
            # Its room is its body and what lies to the north: next to the child's room, or one line further away.
            (later, (0, -20), Crowded), (over, (0, -20), None), (later, (0, -21), None),
            (later, (46, -13), Crowded), (over, (46, -13), None), (later, (47, -13), None),
            (later, (46, -20), None), (later, (45, -20), Crowded),
        ):
            families = Families([(HEIR, (0, 0)), (tape, corner)], {})
            if wanted is None:
                families.grow(BIRTH)
                self.assertEqual(families.machines()[2][6], 0, corner)
            else:
                families.grow(BIRTH - 1)
                with self.assertRaises(Crowded):
                    families.grow(BIRTH)
                # The child is there; its turn has not been.
                self.assertEqual(len(families.machines()), 3)

    def test_a_free_parent_is_over_when_it_is_at_rest_and_its_child_has_begun(self):
        quick, slow, far = own_tape("d0 d3 forth"), own_tape("d3 forth", tail="d0"), own_tape("d5 d10 forth")
        # The slow one is at rest when the quick one's child begins, but its own child has not begun.
        self.assertTrue(done(slow) <= born(quick) - 1 < born(slow) - 1)
        # The far one draws its long arm back when its child has begun.
        self.assertTrue(born(far) - 1 < done(far))
        for tape, other, wanted in ((quick, slow, Crowded), (HEIR, HEIR, None), (far, far, Crowded)):
            # The other one stands to the north of the child's room: next to it, or one line further away.
            north = room(tape)[1] + own(tape)[1]
            for corner, raised in (((0, north - 4), wanted), ((0, north - 5), None)):
                families = Families([(tape, (0, 0)), (other, corner)], {})
                families.grow(born(tape) - 2)
                if raised is None:
                    families.grow(born(tape) - 1)
                    self.assertEqual(families.machines()[2][1:4], (0, 1, own(tape)))
                    self.assertEqual([row[6] for row in families.machines()][:3], [0, 0, 0])
                else:
                    with self.assertRaises(raised):
                        families.grow(born(tape) - 1)

    def test_machines_that_are_over(self):
        # The worker's body stands in the way of the child, or only near it.
        self.assertEqual(halts([(HEIR, (0, 0)), (NOTHING, (20, -14))], {}, 9000), [0, 0, 2])
        self.assertEqual(halts([(HEIR, (0, 0)), (NOTHING, (20, -20))], {}, BIRTH), [0, 0, 0])
        forths = [index for index, sym in enumerate(HEIR) if sym == 3]
        self.assertEqual(halts([(HEIR, (0, 0)), (NOTHING, (0, -14))], {}, 9000), [0, 0, forths[1]])
        # What the worker has built counts as well: one wire on the child's road.
        built_there = describe({(-6, -1): WIRE})
        a = numbers_of(built_there)[3]
        self.assertEqual(halts([(HEIR, (0, 0)), (built_there, (51 - a, -13))], {}, 9000), [0, 0, forths[2]])
        self.assertEqual(halts([(HEIR, (0, 0)), (built_there, (52 - a, -13))], {}, BIRTH), [0, 0, 0])

    def test_the_parent_does_not_count(self):
        # The tape writes a symbol; so any thing near would be refused. The parent stands next to its child's room.
        tape = heir({(0, 0): FULL})
        families = Families([(tape, (0, 0))], {})
        families.grow(5 * born(tape))
        self.assertEqual([row[6] for row in families.machines()], [0] * 6)
        x0, y0, x1, y1 = room(tape)
        with self.assertRaises(Loaded):
            halts([(tape, (0, 0))], {(x0, y1 + 1): WIRE})
        # A wall that is near the child only.
        families = Families([(tape, (0, 0))], {(-1, y0 - 2): WIRE})
        families.grow(born(tape) - 2)
        with self.assertRaises(Loaded):
            families.grow(born(tape) - 1)

    def test_symbols_that_point_to_the_road(self):
        # A worker puts one cell down at the place (46, y), to the east of the child's room, and maybe one at (45, y).
        def with_cell(y, state, in_front=None, walls=None):
            cells = {(-20, -1): state} if in_front is None else {(-20, -1): state, (-21, -1): in_front}
            tape = describe(cells)
            a = numbers_of(tape)[3]
            families = Families([(HEIR, (0, 0)), (tape, (66 - a, y + 1))], walls or {})
            families.grow(BIRTH)
            return families.machines()[2][6]

        for state in (("wire", 2, 8), ("wire", 2, 9), ("arm", 2, 1, 0, 0)):
            with self.assertRaises(Loaded):
                with_cell(-14, state)
            # Its front is not on the road: the lines -16, -15 are passed in the column 22 only.
            self.assertEqual(with_cell(-16, state), 0)
            self.assertEqual(with_cell(-15, state), 0)
        # It points away, or along the border, or holds nothing.
        for state in (("wire", 0, 8), ("wire", 1, 8), ("wire", 3, 9), ("wire", 2, 0), ("join", 2, 0, 0, 0), ("not", 2, 0), ("arm", 1, 1, 0, 0), ("head", 2, 1, 0, 0)):
            self.assertEqual(with_cell(-14, state), 0)
        # There is a thing at the place in front: the child is halted there.
        forths = [index for index, sym in enumerate(HEIR) if sym == 3]
        self.assertEqual(with_cell(-14, ("wire", 2, 8), ("not", 0, 0)), forths[2])
        self.assertEqual(with_cell(-14, ("arm", 2, 1, 0, 0), ("not", 0, 0)), forths[2])
        self.assertEqual(with_cell(-14, ("arm", 2, 1, 0, 0), None, {(45, -14): WIRE}), forths[2])
        # There is one at another place of the road.
        with self.assertRaises(Loaded):
            with_cell(-14, ("arm", 2, 1, 0, 0), None, {(44, -14): WIRE, (22, -9): WIRE})
        with self.assertRaises(Loaded):
            with_cell(-14, ("wire", 2, 8), None, {(43, -14): WIRE, (22, -9): WIRE})

    def test_a_symbol_that_is_written(self):
        a = numbers_of(LOADED)[3]
        self.assertEqual(halts([(LOADED, (0, 0))], {}), [0])
        for x, y in ((a, -1), (a + 1, -3), (0, -6)):
            with self.assertRaises(Loaded):
                halts([(LOADED, (0, 0))], {(x, y): WIRE})

    def test_as_the_second_writing_says(self):
        rng = random.Random(713)
        seen = {}
        for _ in range(70):
            starts, walls = random_family(rng)
            families, clan = Families(starts, walls), Clan(starts, walls)
            told = wanted = ""
            for until in sorted(rng.randint(0, 9000) for _ in range(2)) + [10 ** 7]:
                try:
                    families.grow(until)
                except RametError as error:
                    told = type(error).__name__
                try:
                    clan.grow(until)
                except Wrong as error:
                    wanted = str(error)
                self.assertEqual(told, wanted)
                self.assertEqual(families.machines(), clan.machines())
            for number, kin in enumerate(clan.kin):
                self.assertEqual(families.cells_of(number), kin.cells())
            seen[told] = seen.get(told, 0) + 1
        self.assertTrue(seen[""] > 40 and {"", "Loaded", "Crowded"} <= set(seen), seen)


class ToldTest(unittest.TestCase):
    def family(self):
        families = Families([(HEIR, (0, 0)), (NOTHING, (90, 7))], {(22, -17): WIRE, (0, 90): ("not", 3, 0)})
        families.grow(10 ** 6)
        return families

    def test_machines_tapes_and_lines(self):
        families = self.family()
        rows = families.machines()
        self.assertEqual([row[:4] for row in rows], [(0, -1, 0, (0, 0)), (1, -1, 0, (90, 7)), (2, 0, 1, (0, -8)), (3, 2, 2, (0, -16))])
        self.assertEqual([row[6] for row in rows], [0, 0, 0, 2])
        self.assertIsInstance(rows, list)
        for row in rows:
            self.assertIsInstance(row, tuple)
        self.assertEqual([families.tape(k) for k in range(4)], [HEIR, NOTHING, HEIR, HEIR])
        self.assertEqual([families.line(k) for k in range(4)], [[], [], [0], [0, 2]])

    def test_cells(self):
        families = self.family()
        self.assertEqual(families.cells_of(0), parked(HEIR))
        self.assertEqual(families.cells_of(1), moved(parked(NOTHING), 90, 7))
        self.assertEqual(families.cells_of(2), moved(parked(HEIR), 0, -8))
        self.assertEqual(families.cells_of(3), moved(parked(HEIR), 0, -16))
        with_goods = heir({(0, 0): WIRE, (1, 4): ("or", 0, 0, 0, 0)})
        worker = describe({(1, -4): WIRE})
        families = Families([(with_goods, (0, 0)), (worker, (-80, 3))], {})
        families.grow(0)
        self.assertEqual(families.cells_of(0), union(parked(with_goods), goods(with_goods)))
        self.assertEqual(families.cells_of(1), moved(rest_of(worker), -80, 3))

    def test_start_and_space(self):
        families = self.family()
        walls = {(22, -17): WIRE, (0, 90): ("not", 3, 0)}
        self.assertEqual(families.start(), union(walls, union(machine(HEIR), moved(machine(NOTHING), 90, 7))))
        last = max(row[5] for row in families.machines())
        wanted = walls
        for number in range(4):
            wanted = union(wanted, families.cells_of(number))
        self.assertEqual(families.space(last), wanted)
        self.assertEqual(len(wanted), 2 + 3 * 94 + 14)
        self.assertTrue(is_pattern(wanted))
        # The pattern at the start does not depend on what has happened.
        self.assertEqual(Families([(HEIR, (0, 0)), (NOTHING, (90, 7))], walls).start(), families.start())

    def test_what_is_returned_is_new(self):
        families = self.family()
        for tell in (
            families.machines, families.start, lambda: families.cells_of(2), lambda: families.space(10 ** 6), lambda: families.line(3),
        ):
            first = tell()
            wanted = first.copy()
            first.clear()
            self.assertEqual(tell(), wanted)
            self.assertTrue(wanted)

    def test_no_such_kin(self):
        families = self.family()
        for number in (-1, -4, 4, 5, 1000, -1000):
            for method in (families.tape, families.line, families.cells_of):
                with self.assertRaises(NoSuchKin):
                    method(number)
        nobody = Families([], {})
        for number in (0, -1, 1):
            for method in (nobody.tape, nobody.line, nobody.cells_of):
                with self.assertRaises(NoSuchKin):
                    method(number)
        # A machine that is not born yet.
        families = Families([(HEIR, (0, 0))], {})
        for number in (1, -1):
            with self.assertRaises(NoSuchKin):
                families.tape(number)

    def test_is_quiet(self):
        families = Families([(NOTHING, (0, 0))], {})
        self.assertIs(families.is_quiet(15), False)
        families.grow(14)
        self.assertIs(families.is_quiet(14), False)
        self.assertIs(families.is_quiet(15), False)
        families.grow(15)
        self.assertIs(families.is_quiet(15), True)
        self.assertIs(families.is_quiet(14), False)
        self.assertIs(families.is_quiet(16), False)
        families.grow(500)
        self.assertEqual([families.is_quiet(k) for k in (-1, 0, 14, 15, 16, 499, 500, 501)], [False] * 3 + [True] * 4 + [False])
        # An earlier time afterwards changes nothing.
        families.grow(3)
        self.assertIs(families.is_quiet(500), True)

    def test_a_family_with_a_free_line_is_not_quiet(self):
        families = Families([(HEIR, (0, 0))], {})
        for until in (0, 1740, 1741, 1749, 1750, 1900, 3491, 3499, 3500, 20 * BIRTH + 1745):
            families.grow(until)
            for time in (0, 1741, until, until + 1):
                self.assertIs(families.is_quiet(time), False)
        with self.assertRaises(TooMany):
            families.grow(10 ** 6)
        self.assertIs(families.is_quiet(20 * BIRTH + 1745), False)
        self.assertIs(families.is_quiet(10 ** 6), False)

    def test_quiet_again_after_the_last_halt(self):
        families = self.family()
        last = 2 * BIRTH + done(HEIR) + 6 * 43 + 40
        self.assertEqual(families.machines()[3][4:6], (2 * BIRTH, last))
        self.assertEqual([families.is_quiet(time) for time in (0, last - 1, last, 10 ** 6, 10 ** 6 + 1)], [False, False, True, True, False])

    def test_not_quiet_after_an_error(self):
        # All that has happened is at rest, but the last call that raised nothing had an earlier time.
        families = Families([(HEIR, (0, 0)), (LOADED, (300, 0))], {(300, -7): WIRE})
        families.grow(-1)
        with self.assertRaises(Loaded):
            families.grow(10 ** 6)
        self.assertIs(families.is_quiet(10 ** 6), False)
        self.assertIs(families.is_quiet(-1), False)

    def test_not_quiet(self):
        families = Families([(NOTHING, (0, 0))], {})
        for time in (-1, 0, 15, 100):
            with self.assertRaises(NotQuiet):
                families.space(time)
        families.grow(100)
        for time in (-1, 0, 14, 101):
            with self.assertRaises(NotQuiet):
                families.space(time)
        self.assertEqual(families.space(15), families.space(100))
        self.assertEqual(families.space(15), parked(NOTHING))

    def test_a_family_without_starts(self):
        walls = {(0, 0): WIRE, (3, 4): ("join", 1, 1, 1, 0)}
        families = Families([], walls)
        self.assertEqual((families.machines(), families.start()), ([], walls))
        self.assertIs(families.is_quiet(0), False)
        with self.assertRaises(NotQuiet):
            families.space(0)
        families.grow(10)
        self.assertEqual((families.machines(), families.space(0), families.space(10)), ([], walls, walls))
        self.assertEqual([families.is_quiet(k) for k in (0, 10, 11)], [True, True, False])
        self.assertEqual(Families([], {}).start(), {})


class ExampleTest(unittest.TestCase):
    def test_both_walls(self):
        families = Families([(HEIR, (0, 0))], {(22, -9): WIRE})
        families.grow(10 ** 6)
        first_forth = HEIR.index(3)
        rest = done(HEIR) + 6 * 43 + 40
        self.assertEqual(
            families.machines(),
            [(0, -1, 0, (0, 0), 0, done(HEIR), 0), (1, 0, 1, (0, -8), BIRTH, BIRTH + rest, first_forth)],
        )
        self.assertEqual(families.cells_of(1), moved(parked(HEIR), 0, -8))
        self.assertTrue(families.is_quiet(BIRTH + rest))
        families = Families([(HEIR, (0, 0))], {(22, -1): WIRE})
        families.grow(10 ** 6)
        self.assertEqual(families.machines(), [(0, -1, 0, (0, 0), 0, rest, first_forth)])
        self.assertEqual(families.cells_of(0), parked(HEIR))
        self.assertEqual(body_box(HEIR), (0, 0, 45, 3))


if __name__ == "__main__":
    unittest.main()
