"""Errands and repairs (8.4 to 8.12)."""

import random
import unittest

from ramet.arm import done
from ramet.body import body_box, machine, road_of, room
from ramet.describe import describe
from ramet.engine import Engine
from ramet.errors import BadTape, Crowded, NoRoom, NotNetCell, NotPart, NotStill, NotWritten, RametError, Touched
from ramet.families import Families
from ramet.kin import apart, moved_box
from ramet.kinds import written_number, written_state
from ramet.look import look
from ramet.mend import Errand, errand, repair
from ramet.own import heir
from ramet.space import box, is_still, moved, run, union
from ramet.tape import read_tape, tape_line

from tests.helpers import NET_KINDS, STEPS, random_state
from tests.kinfolk import numbers_of

WIRE = ("wire", 0, 0)
NOT = ("not", 0, 0)
WHOLE = {(5, 5): WIRE, (6, 5): NOT}
LOST = {(6, 5): NOT}


def without(whole, lost):
    return {place: state for place, state in whole.items() if place not in lost}


class ExampleTest(unittest.TestCase):
    def test_the_example(self):
        found = errand(WHOLE, LOST, (6, 7))
        self.assertEqual(tape_line(found.tape), "start d2 forth w13 w0 stop end")
        self.assertEqual(numbers_of(found.tape), (7, 20, 10, 4))
        self.assertEqual(found.corner, (2, 7))
        self.assertEqual(found.steps, done(found.tape))
        self.assertIsInstance(found, Errand)
        self.assertEqual(repair({(5, 5): WIRE}, found), WHOLE)
        with self.assertRaises(Crowded):
            errand(WHOLE, LOST, (6, 6))
        self.assertEqual(numbers_of(read_tape("start forth w13 stop end")), (5, 16, 8, 3))

    def test_tape_corner_and_steps(self):
        whole = {(0, 0): WIRE, (3, -2): ("fork", 1, 1, 0, 0), (-4, -7): ("wire", 2, 8), (40, 40): NOT}
        two = {(3, -2): whole[3, -2], (-4, -7): whole[-4, -7]}
        for lost, places in (({}, [(20, 20), (-30, -9)]), ({(0, 0): WIRE}, [(0, 5), (1, 3), (-2, 3), (5, 20)]), (two, [(3, 9), (4, 9), (-4, 4)])):
            for x, y in places:
                found = errand(whole, lost, (x, y))
                tape = describe(moved(lost, -x, -y))
                self.assertEqual((found.tape, found.corner), (tape, (x - numbers_of(tape)[3], y)))
                self.assertEqual(found.steps, done(tape))
                self.assertEqual(repair(without(whole, lost), found), whole)

    def test_nothing_is_lost(self):
        found = errand(WHOLE, {}, (6, 9))
        self.assertEqual((found.tape, found.corner, found.steps), (read_tape("start stop end"), (4, 9), 15))
        self.assertEqual(repair(WHOLE, found), WHOLE)
        self.assertEqual(errand({}, {}, (0, 0)).corner, (-2, 0))
        self.assertEqual(repair({}, errand({}, {}, (0, 0))), {})

    def test_an_errand_has_what_it_was_given(self):
        made = Errand(read_tape("start stop end"), (3, 4), 9)
        self.assertEqual((made.tape, made.corner, made.steps), ((6, 5, 7), (3, 4), 9))
        made = Errand(corner=(3, 4), steps=9, tape=(6, 5, 7))
        self.assertEqual((made.tape, made.corner, made.steps), ((6, 5, 7), (3, 4), 9))


# What is wrong, in the order of the point: each entry changes the whole, the lost cells and the neighbour's place.
FAR_ROW = {(k, 4): written_state(1 + k % 2) for k in range(-150, 160)}
WRONG = (
    (NotPart, {}, {(90, 1): WIRE}, None),
    (NotPart, {(90, 1): WIRE}, {(90, 1): ("wire", 1, 0)}, None),
    (NotPart, {(90, 1): ("wire", 0, 8)}, {(90, 1): WIRE}, None),
    (NotStill, {(50, 50): ("wire", 0, 9), (51, 50): WIRE}, {}, None),
    (NotNetCell, {(6, 4): ("reader", 0, 0, 0, 0, 0, 0)}, {(6, 4): ("reader", 0, 0, 0, 0, 0, 0)}, None),
    (NotNetCell, {(6, 4): ("reader", 0, 0, 0, 1, 0, 0)}, {(6, 4): ("reader", 0, 0, 0, 1, 0, 0)}, None),
    (NotNetCell, {(6, 4): ("head", 1, 1, 0, 0)}, {(6, 4): ("head", 1, 1, 0, 0)}, None),
    (NotNetCell, {(6, 4): ("arm", 1, 1, 0, 0)}, {(6, 4): ("arm", 1, 1, 0, 0)}, None),
    (NotNetCell, {(6, 4): ("port", 1, 1, 0)}, {(6, 4): ("port", 1, 1, 0)}, None),
    (NotWritten, {(6, 4): ("wire", 1, 10)}, {(6, 4): ("wire", 1, 10)}, None),
    (NotWritten, {(6, 4): ("join", 1, 0, 1, 0)}, {(6, 4): ("join", 1, 0, 1, 0)}, None),
    (NotWritten, {(6, 4): ("and", 1, 0, 0, 1)}, {(6, 4): ("and", 1, 0, 0, 1)}, None),
    (NoRoom, {(6, 80): WIRE}, {(6, 80): WIRE}, None),
    (NoRoom, {(300, 0): WIRE}, {(300, 0): WIRE}, None),
    (NoRoom, {}, {}, (6, 206)),
    (BadTape, {**FAR_ROW, **{(x, 3): ("wire", 1, 0) if x % 2 else ("wire", 2, 0) for x in range(-150, 160)}}, {
        **FAR_ROW, **{(x, 3): ("wire", 1, 0) if x % 2 else ("wire", 2, 0) for x in range(-150, 160)}}, None),
    (Crowded, {(6, 9): WIRE}, {}, None),
    (Crowded, {(6, 6): WIRE}, {}, None),
    (Touched, {(7, 5): ("arm", 0, 1, 0, 0)}, {}, None),
    (Touched, {(7, 5): ("head", 0, 1, 0, 0)}, {}, None),
    (Touched, {(7, 5): ("port", 0, 1, 0)}, {}, None),
)


class ErrorTest(unittest.TestCase):
    def raises(self, error, whole, lost, place=(6, 7)):
        kept = dict(whole), dict(lost)
        with self.assertRaises(error):
            errand(whole, lost, place)
        self.assertEqual((whole, lost), kept)

    def test_each_error_alone(self):
        for error, more, more_lost, place in WRONG:
            self.raises(error, {**WHOLE, **more}, {**LOST, **more_lost}, place or (6, 7))

    def test_two_at_a_time(self):
        for k, (error, more, more_lost, place) in enumerate(WRONG):
            for later, others, others_lost, other_place in WRONG[k + 1:]:
                if later is not error and not set(more) & set(others):
                    whole = {**WHOLE, **others, **more}
                    self.raises(error, whole, {**LOST, **others_lost, **more_lost}, place or other_place or (6, 7))

    def test_not_part_in_any_place(self):
        for lost in ({(0, 0): WIRE}, {(0, 0): WIRE, **LOST}, {**LOST, (0, 0): WIRE}, {(6, 5): WIRE}, {(6, 5): ("not", 1, 0)}):
            self.raises(NotPart, WHOLE, lost)
        self.raises(NotPart, {}, LOST)

    def test_net_cells_that_may_be_lost(self):
        for state in (WIRE, ("wire", 1, 9), NOT, ("fork", 2, 1, 0, 0), ("cross", 0, 0, 0, 0), ("and", 3, 1, 0, 0), ("or", 1, 0, 0, 0), ("join", 2, 0, 0, 0)):
            whole = {(5, 5): ("wire", 3, 0), (6, 5): state}
            found = errand(whole, {(6, 5): state}, (6, 7))
            self.assertEqual(repair({(5, 5): ("wire", 3, 0)}, found), whole)

    def test_crowded(self):
        # The body box of the neighbour at (6, 7) has the columns 2 to 11 and the lines 7 to 10.
        self.assertEqual(errand(WHOLE, LOST, (6, 7)).corner, (2, 7))
        self.assertEqual(body_box(errand(WHOLE, LOST, (6, 7)).tape), (0, 0, 9, 3))
        near = [(2, 7), (11, 10), (5, 8), (2, 6), (11, 6), (5, 6), (7, 6), (1, 7), (1, 10), (12, 7), (12, 10), (2, 11), (11, 11), (6, 11)]
        for place in near + [(6, 6)]:
            for state in (("cross", 0, 0, 0, 0), ("reader", 0, 0, 0, 0, 0, 0), ("head", 2, 1, 0, 0)):
                self.raises(Crowded, {**WHOLE, place: state}, LOST)
        for place in ((1, 6), (12, 6), (1, 11), (12, 11), (0, 7), (13, 9), (6, 12), (6, 4), (7, 5), (3, 5)):
            whole = {**WHOLE, place: ("cross", 0, 0, 0, 0)}
            self.assertEqual(errand(whole, LOST, (6, 7)).corner, (2, 7))
        # On the road: in the column of the arm, and in a row where other cells are put back.
        whole = {(0, 0): WIRE, (4, 0): NOT, (2, 0): WIRE, (0, 3): NOT}
        lost = {(0, 0): WIRE, (4, 0): NOT}
        self.raises(Crowded, whole, lost, (0, 8))
        self.raises(Crowded, without(whole, [(2, 0)]), lost, (0, 8))
        self.assertEqual(repair({}, errand(lost, lost, (0, 8))), lost)
        # What is lost is not in the way.
        self.assertEqual(repair({}, errand(without(whole, [(0, 3)]), without(whole, [(0, 3)]), (0, 8))), without(whole, [(0, 3)]))
        # A lost cell may stand next to the neighbour's body.
        found = errand({(6, 6): NOT}, {(6, 6): NOT}, (6, 7))
        self.assertEqual(repair({}, found), {(6, 6): NOT})

    def test_touched(self):
        whole = {(6, 3): NOT, (9, 3): WIRE}
        lost = dict(whole)
        # The road goes from (6, 7) to (6, 3) and on to (9, 3).
        for state in (("arm", 1, 1, 0, 0), ("head", 1, 1, 0, 0), ("port", 1, 1, 0), ("arm", 1, 0, 0, 0)):
            for place in ((5, 3), (6, 2), (9, 2), (10, 3), (9, 4), (7, 2), (8, 4), (5, 4), (7, 5)):
                self.raises(Touched, {**whole, place: state}, lost)
            for place in ((5, 2), (10, 2), (10, 4), (4, 3), (8, 5), (11, 3), (6, 1), (4, 5)):
                self.assertTrue(is_still({**whole, place: state}))
                found = errand({**whole, place: state}, lost, (6, 7))
                self.assertEqual(repair({place: state}, found), {**whole, place: state})
        for state in (WIRE, ("reader", 1, 0, 0, 2, 0, 0), ("reader", 0, 1, 4, 0, 2, 6), ("cross", 1, 1, 0, 0)):
            for place in ((5, 3), (6, 2), (7, 2), (5, 4), (7, 5)):
                found = errand({**whole, place: state}, lost, (6, 7))
                self.assertEqual(repair({place: state}, found), {**whole, place: state})

    def test_what_is_passed_stays(self):
        whole, lost = dict(WHOLE), dict(LOST)
        found = errand(whole, lost, (6, 7))
        self.assertEqual((whole, lost), (WHOLE, LOST))
        kept = found.tape, found.corner, found.steps
        now = {(5, 5): WIRE}
        after = repair(now, found)
        self.assertEqual((now, after), ({(5, 5): WIRE}, WHOLE))
        self.assertEqual((found.tape, found.corner, found.steps), kept)
        after.clear()
        self.assertEqual(repair(now, found), WHOLE)

    def test_crowded_of_repair(self):
        found = errand(WHOLE, LOST, (6, 7))
        for place in ((2, 7), (11, 10), (6, 9), (1, 8), (12, 8), (6, 6), (11, 11), (2, 6)):
            now = {(5, 5): WIRE, place: WIRE}
            with self.assertRaises(Crowded):
                repair(now, found)
            self.assertEqual(now, {(5, 5): WIRE, place: WIRE})
        for place in ((1, 6), (12, 6), (1, 11), (12, 11), (0, 8), (13, 8), (6, 12), (9, 5)):
            self.assertEqual(repair({(5, 5): WIRE, place: ("not", 3, 0)}, found), {**WHOLE, place: ("not", 3, 0)})

    def test_repair_runs_just_the_steps(self):
        # With fewer steps the cell is not there yet; the places of the body are taken away all the same.
        found = errand(WHOLE, LOST, (6, 7))
        early = repair({(5, 5): WIRE}, Errand(found.tape, found.corner, 5))
        wanted = run(union({(5, 5): WIRE}, moved(machine(found.tape), 2, 7)), 5)
        self.assertEqual(early, {place: state for place, state in wanted.items() if not (2 <= place[0] <= 11 and 7 <= place[1] <= 10)})
        self.assertEqual(early, {(5, 5): WIRE})
        halfway = repair({(5, 5): WIRE}, Errand(found.tape, found.corner, 20))
        self.assertTrue(any(state[0] in ("arm", "head", "stretch") for state in halfway.values()))
        moving = repair({(0, 0): ("wire", 0, 9), (1, 0): WIRE, (2, 0): WIRE}, Errand(read_tape("start stop end"), (40, 40), 1))
        self.assertEqual(moving, {(0, 0): WIRE, (1, 0): ("wire", 0, 9), (2, 0): WIRE})


def still_net(rng, width, height, full):
    """Return a pattern of net cells that has come to rest; many of them hold bits."""
    while True:
        pattern = {}
        for x in range(width):
            for y in range(height):
                if rng.random() < full:
                    state = random_state(rng, NET_KINDS)
                    if state[0] in ("wire", "not"):
                        state = state[:2] + (rng.choice([0, 8, 9]),)
                    pattern[x, y] = state
        engine = Engine(pattern)
        if engine.settle(300) >= 0:
            return engine.pattern()


def may_be_lost(state):
    if state[0] == "reader":
        return False
    try:
        written_number(state)
        return True
    except RametError:
        return False


def harms(rng, whole, tries):
    """Return pairs (lost, errand) for harms of a pattern that can be repaired."""
    found = []
    x0, y0, x1, y1 = box(whole)
    places = sorted(place for place, state in whole.items() if may_be_lost(state))
    for _ in range(tries):
        if places:
            x, y = rng.choice(places)
            reach = rng.choice([0, 1, 1, 2, 4])
            near = [place for place in places if abs(place[0] - x) <= reach and abs(place[1] - y) <= reach]
            lost = {place: whole[place] for place in near if rng.random() < 0.9}
            head = (rng.randint(x0 - 2, x1 + 2), rng.choice([y + 1, y + 2, y + 4, y1 + 2]))
            try:
                found.append((lost, errand(whole, lost, head)))
            except RametError:
                pass
    return found


class RepairTest(unittest.TestCase):
    def mends(self, whole, lost, task):
        """Check 8.7 and 8.8: the whole is there again, and what is not near stays the same at each step."""
        now = without(whole, lost)
        self.assertEqual(repair(now, task), whole)
        road = {(x + task.corner[0], y + task.corner[1]) for x, y in road_of(task.tape)}
        near = {(x + dx, y + dy) for x, y in list(road) + list(lost) for dx, dy in STEPS}
        rest = [(place, state) for place, state in now.items() if place not in near]
        engine = Engine(union(now, moved(machine(task.tape), *task.corner)))
        for _ in range(task.steps):
            engine.advance(1)
            for place, state in rest:
                self.assertEqual(engine.at(place), state)
        # The neighbour is at rest, too.
        self.assertTrue(engine.is_idle())

    def test_random_nets(self):
        rng = random.Random(811)
        cells, holding = 0, 0
        for _ in range(150):
            whole = still_net(rng, rng.randint(2, 14), rng.randint(1, 9), rng.choice([0.15, 0.3, 0.6]))
            if whole:
                for lost, task in harms(rng, whole, 12)[:3]:
                    cells += len(lost)
                    holding += sum(1 for state in lost.values() if state[0] == "wire" and state[2] != 0)
                    self.mends(whole, lost, task)
        self.assertTrue(cells > 200 and holding > 40, (cells, holding))

    def test_single_cells_of_a_dense_row(self):
        # The cells beside them hold bits that wait.
        whole = {(k, 0): ("wire", 0, 8 + k % 2) for k in range(8)}
        whole.update({(8, 0): ("wire", 2, 9), (3, -1): ("wire", 3, 9), (6, -1): ("fork", 3, 0, 8, 2)})
        self.assertTrue(is_still(whole))
        for k in range(8):
            lost = {(k, 0): whole[k, 0]}
            self.mends(whole, lost, errand(whole, lost, (k, 2)))
        lost = {(k, 0): whole[k, 0] for k in range(8)}
        self.mends(whole, lost, errand(whole, lost, (2, 5)))

    def test_two_harms_in_either_order(self):
        rng = random.Random(812)
        many = 0
        for _ in range(100):
            left = still_net(rng, 6, 5, 0.4)
            right = moved(still_net(rng, 6, 5, 0.4), 60, rng.randint(-3, 3))
            whole = union(left, right)
            if not left or not right:
                continue
            for (first, one), (second, two) in zip(harms(rng, left, 8), harms(rng, right, 8)):
                try:
                    one, two = [errand(whole, lost, (task.corner[0] + numbers_of(task.tape)[3], task.corner[1]))
                                for lost, task in ((first, one), (second, two))]
                except RametError:
                    continue
                rooms = [moved_box(room(task.tape), *task.corner) for task in (one, two)]
                if not first or not second or not apart(*rooms) or not apart(rooms[0], box(second)) or not apart(rooms[1], box(first)):
                    continue
                many += 1
                now = without(whole, {**first, **second})
                self.assertEqual(repair(repair(now, one), two), whole)
                self.assertEqual(repair(repair(now, two), one), whole)
        self.assertTrue(many > 25, many)

    def test_families(self):
        # A quiet family loses cells of rings, goods and built cells; each loss is told, and put back.
        rng = random.Random(813)
        late = 10 ** 5
        worker = describe({(3, -4): WIRE, (-3, -4): ("wire", 1, 0), (2, -9): ("or", 0, 1, 0, 0)})
        families = Families([(heir({(0, 0): NOT, (3, 2): WIRE}), (0, 0)), (worker, (150, 0))], {(24, -9): WIRE, (26, -13): WIRE, (26, -14): WIRE})
        families.grow(late)
        space = families.space(late)
        self.assertTrue(families.machines()[2][6] > 0)
        for _ in range(12):
            now, tasks = dict(space), []
            for number in rng.sample(range(3), 2):
                cells = families.cells_of(number)
                for _ in range(60):
                    x, y = rng.choice(sorted(place for place, state in cells.items() if may_be_lost(state)))
                    try:
                        task = errand(space, {(x, y): cells[x, y]}, (x, y + rng.choice([1, 2, 3])))
                    except RametError:
                        continue
                    tasks.append(task)
                    del now[x, y]
                    break
            seen = look(families, now, late)
            self.assertTrue(len(seen) >= 1 and len(tasks) == 2)
            for _, lost, _ in seen:
                self.assertEqual(union(space, lost), space)
            for task in tasks:
                now = repair(now, task)
            self.assertEqual(look(families, now, late), look(families, space, late))
            self.assertEqual(now, space)

    def test_behind_the_repairs_look_finds_nothing(self):
        late = 10 ** 5
        tape = heir({})
        families = Families([(tape, (0, 0))], {(22, -9): WIRE})
        families.grow(late)
        space = families.space(late)
        groups = [{place: space[place] for place in places} for places in ([(30, 3), (31, 3), (30, 2)], [(40, 3)])]
        lost = union(*groups)
        now = without(space, lost)
        self.assertEqual(look(families, now, late), [(0, lost, {})])
        now = repair(now, errand(space, groups[0], (30, 6)))
        self.assertEqual(look(families, now, late), [(0, groups[1], {})])
        now = repair(now, errand(space, groups[1], (40, 6)))
        self.assertEqual(look(families, now, late), [])
        self.assertEqual(now, space)
        # What one neighbour cannot put back in one go is refused: other cells are on its road.
        with self.assertRaises(Crowded):
            errand(space, lost, (30, 6))


if __name__ == "__main__":
    unittest.main()
