"""5.5 to 5.9, and what 5.14 says of walks."""

import random
import unittest

from ramet import errors
from ramet.engine import Engine
from ramet.errors import BadTape, InTheWay, NoRoom
from ramet.kinds import END, START, STOP
from ramet.tape import is_tape, read_tape
from ramet.walker import Made, meaning

from tests.helpers import loaded
from tests.walks import Walk, random_walk_tape, state_of_number

ATTRIBUTES = ("cells", "road", "steps", "lengths", "visits", "trail", "place", "direction")


def tape(words, last="stop"):
    return read_tape(f"start {words} {last} end" if words else f"start {last} end")


def walk(words, last="stop"):
    return meaning(tape(words, last))


def forth(n):
    """The words for n steps in one direction, in commands of at most 15 steps."""
    words = ["d15 forth"] * (n // 15)
    if n % 15:
        words.append("d" + str(n % 15) + " forth")
    return " ".join(words)


class MadeTest(unittest.TestCase):
    def test_without_commands(self):
        for last in ("stop", "port"):
            made = walk("", last)
            self.assertIsInstance(made, Made)
            got = tuple(getattr(made, name) for name in ATTRIBUTES)
            self.assertEqual(got, ({}, ((0, 0),), (), (1,), (), ((0, 1),), (0, 0), 1))

    def test_kinds_of_values(self):
        made = walk("forth right d2 forth w1 w0 left w0")
        kinds = (dict, tuple, tuple, tuple, tuple, tuple, tuple, int)
        self.assertEqual(tuple(type(getattr(made, name)) for name in ATTRIBUTES), kinds)
        for place in made.road + made.trail + tuple(made.cells) + tuple(sum(made.visits, ())):
            self.assertEqual((type(place), len(place)), (tuple, 2))
        for told in made.steps:
            self.assertEqual((type(told), type(told[0]), type(told[1])), (tuple, str, int))
        for visited in made.visits:
            self.assertIsInstance(visited, tuple)

    def test_example(self):
        made = walk("forth right d2 forth w1 w0 left w0")
        self.assertEqual(made.cells, {(2, -1): ("wire", 0, 0)})
        self.assertEqual(made.road, ((0, -1), (1, -1), (2, -1), (0, 0)))
        self.assertEqual(made.lengths, (1, 2, 2, 2, 4, 3, 2, 2, 1))
        self.assertEqual(made.steps, (
            ("forth", 1), ("turn", 0), ("digit", 0), ("forth", 2), ("write", 1), ("write", 1), ("turn", 0), ("write", 1),
        ))
        self.assertEqual(made.visits, (((0, -1),), (), (), ((1, -1), (2, -1)), (), (), (), ()))
        self.assertEqual((made.trail, made.place, made.direction), (((0, 1),), (0, 0), 1))

    def test_turns(self):
        for words, direction in (
            ("left", 2), ("right", 0), ("left left", 3), ("right right", 3), ("left left left", 0), ("left right", 1),
            ("d5 left", 2), ("right right right right", 1),
        ):
            made = walk(words)
            self.assertEqual((made.direction, made.place, made.cells), (direction, (0, 0), {}))
            self.assertEqual(set(made.lengths), {1})

    def test_counts(self):
        for words, many in (
            ("forth", 1), ("d0 forth", 1), ("d1 forth", 1), ("d2 forth", 2), ("d15 forth", 15), ("d1 d0 forth", 16),
            ("d0 d7 forth", 7), ("d3 d4 forth", 52), ("d0 d0 d9 forth", 9), ("d0 d0 d0 forth", 1), ("d12 d8 forth", 200),
        ):
            made = walk(words)
            self.assertEqual(made.place, (0, -many))
            self.assertEqual(made.steps[-1], ("forth", many))
            self.assertEqual(made.visits[-1], tuple((0, -k) for k in range(1, many + 1)))
            self.assertEqual(made.trail, tuple((0, 1 - k) for k in range(many + 1)))
            self.assertEqual(made.lengths, (1,) * len(made.steps) + (many + 1,))

    def test_a_count_is_at_most_255(self):
        going = "forth left " + forth(200) + " right forth right d15 d15 forth"
        for digits in ("d15 d15", "d15 d15 d0", "d1 d0 d0", "d15 d15 d15", "d15 d14 d0", "d1 d0 d0 d0"):
            words = going + " " + digits + " w0"
            self.assertEqual(walk(words).steps[-1], ("write", 255))
        self.assertEqual(walk(going + " d15 d14 w0").steps[-1], ("write", 254))
        # From 255 on, a digit gives 255 again, not 16 * 255 + k cut in another way.
        self.assertEqual(walk(going + " d15 d15 d3 w0").steps[-1], ("write", 255))

    def test_forth_turns_and_writes_use_the_count_up(self):
        made = walk("d3 forth forth d2 left forth d2 w0 w0 d2 right w0")
        self.assertEqual([told for told in made.steps if told[0] in ("forth", "write")], [
            ("forth", 3), ("forth", 1), ("forth", 1), ("write", 2), ("write", 1), ("write", 1),
        ])

    def test_writes_and_the_way_back(self):
        made = walk("d3 forth left d2 forth d2 w13 w1 w0")
        self.assertEqual(made.cells, {(-2, -3): ("not", 0, 0), (-1, -3): ("not", 0, 0), (0, -3): ("wire", 0, 0)})
        self.assertEqual((made.place, made.direction), ((0, -1), 1))
        self.assertEqual(made.trail, ((0, 1), (0, 0)))
        self.assertEqual(made.lengths, (1, 1, 4, 4, 4, 6, 6, 4, 3, 2))
        self.assertEqual(made.road, ((-2, -3), (-1, -3), (0, -3), (0, -2), (0, -1), (0, 0)))

    def test_the_direction_is_that_of_the_entry(self):
        made = walk("forth left forth right forth w1")
        self.assertEqual((made.place, made.direction), ((-1, -1), 1))
        made = walk("forth left forth right forth w1 w1")
        self.assertEqual((made.place, made.direction), ((0, -1), 2))
        made = walk("forth left forth right forth w1 w1 w1")
        self.assertEqual((made.place, made.direction), ((0, 0), 1))

    def test_each_written_state(self):
        for number in range(73):
            # The arm to the east, number 65, would look at the trail.
            if number != 65:
                made = walk(f"d2 forth left forth w{number} w0")
                state = state_of_number(number)
                self.assertEqual(made.cells, {} if state is None else {(-1, -2): state})
        self.assertEqual(walk("d2 forth right forth w65").cells, {(1, -2): ("arm", 0, 1, 0, 0)})

    def test_port_ends_the_walk_as_stop_does(self):
        for words in ("", "forth", "d3 forth left d2 forth w1", "d4 forth right"):
            one, other = walk(words), walk(words, "port")
            for name in ATTRIBUTES:
                self.assertEqual(getattr(one, name), getattr(other, name))

    def test_ground_leaves_the_place_free(self):
        made = walk("forth left d2 forth d2 w0 left left w0 forth left d2 forth w5")
        self.assertEqual(made.cells, {(-2, -1): ("wire", 0, 8)})
        self.assertEqual(made.road, ((-2, -1), (-1, -1), (0, -1), (0, 0)))

    def test_objects_do_not_share_anything(self):
        one = walk("forth left forth w1 w0")
        one.cells.clear()
        self.assertEqual(walk("forth left forth w1 w0").cells, {(-1, -1): ("wire", 0, 0)})

    def test_walks_as_told_entry_by_entry(self):
        rng = random.Random(111)
        found = {}
        for _ in range(3000):
            drawn = random_walk_tape(rng, rng.choice([2, 5, 10, 20, 40]))
            expected = Walk(drawn)
            if expected.error:
                with self.assertRaises(getattr(errors, expected.error)):
                    meaning(drawn)
            else:
                made = meaning(drawn)
                for name in ATTRIBUTES:
                    self.assertEqual(getattr(made, name), getattr(expected, name), (name, drawn))
            found[expected.error] = found.get(expected.error, 0) + 1
        self.assertTrue(all(found.get(kind, 0) > 100 for kind in (None, "NoRoom", "InTheWay")), found)


class RefusedTest(unittest.TestCase):
    """5.7: each rule at its edge, and the order of the rules."""

    def refuses(self, error, words):
        for last in ("stop", "port"):
            with self.assertRaises(error, msg=words):
                walk(words, last)

    def test_no_tape(self):
        for value in (
            (), None, 0, "start stop end", [START, STOP, END], (START, END), (START, 4, STOP, END), (START, 0, STOP, END),
            (START, True, STOP, END), (START, 97, STOP, END), (START,) + (8,) * 398 + (STOP, END), (STOP, START, END), {},
        ):
            self.assertFalse(is_tape(value))
            with self.assertRaises(BadTape):
                meaning(value)

    def test_no_tape_comes_before_a_walk_that_is_refused(self):
        with self.assertRaises(BadTape):
            meaning((START, 25, STOP))

    def test_the_bound_to_the_north(self):
        self.assertEqual(walk(forth(200)).place, (0, -200))
        self.refuses(NoRoom, forth(201))
        self.refuses(NoRoom, forth(200) + " forth")
        self.refuses(NoRoom, "d15 d15 forth")

    def test_the_bounds_to_the_west_and_to_the_east(self):
        for turn, sign in (("left", -1), ("right", 1)):
            self.assertEqual(walk(f"forth {turn} {forth(200)}").place, (200 * sign, -1))
            self.refuses(NoRoom, f"forth {turn} {forth(201)}")
            self.refuses(NoRoom, f"forth {turn} {forth(200)} forth")

    def test_the_bound_to_the_south(self):
        self.assertEqual(walk("d3 forth left forth left d2 forth").place, (-1, -1))
        self.refuses(NoRoom, "d3 forth left forth left d3 forth")
        self.refuses(NoRoom, "left forth")
        self.refuses(NoRoom, "right forth")
        # To the south of the head is the root, but the bound is looked at first.
        self.refuses(NoRoom, "left left forth")
        self.refuses(NoRoom, "forth left left forth")

    def test_a_count_of_which_only_a_later_step_is_refused(self):
        self.refuses(NoRoom, "forth " + forth(180) + " d1 d5 forth")
        self.refuses(InTheWay, "d5 forth left d3 forth left d2 forth left d9 forth")
        self.assertEqual(walk("d5 forth left d3 forth left d2 forth left d2 forth").place, (-1, -3))
        self.refuses(InTheWay, "d3 forth d4 w0")
        self.assertEqual(walk("d3 forth d3 w0").place, (0, 0))

    def test_the_trail_is_in_the_way(self):
        self.refuses(InTheWay, "d2 forth left left forth")
        self.refuses(InTheWay, "forth left forth right forth right forth right forth")
        self.assertEqual(walk("forth left forth right forth right forth").place, (0, -2))
        # A place that has left the trail is free again.
        self.assertEqual(walk("d2 forth w0 forth").place, (0, -2))
        self.assertEqual(walk("forth left d2 forth d2 w0 right d2 forth left forth left forth").place, (-1, -2))

    def test_written_states_are_in_the_way(self):
        for number in range(1, 73):
            if 65 <= number <= 68:
                continue
            self.refuses(InTheWay, f"d2 forth left forth w{number} forth")
            self.refuses(InTheWay, f"d2 forth left d2 forth w{number} forth")
        self.assertEqual(walk("d2 forth left forth w0 forth").place, (-1, -2))

    def test_the_front_of_a_written_arm_is_in_the_way(self):
        # Something is written at (-2, -3); then the walker stands on (0, -3) and looks to the west.
        build = "d3 forth left d2 forth w{} w0 "
        ways = {67: "right forth left d3 forth left forth", 66: "right forth left d2 forth", 68: "w0 left d2 forth"}
        ends = {67: (-3, -3), 66: (-2, -4), 68: (-2, -2)}
        for number, way in ways.items():
            self.refuses(InTheWay, build.format(number) + way)
            # An arm whose front is elsewhere, or another state, is not in the way.
            for other in (1, 69, 57) + tuple(arm for arm in ways if arm != number and (arm, number) != (66, 67)):
                self.assertEqual(walk(build.format(other) + way).place, ends[number])

    def test_the_front_of_an_arm_stays_in_the_way(self):
        # Much later, and from another side.
        words = "d3 forth left d2 forth w66 w0 right d2 forth left d2 forth left"
        self.assertEqual(walk(words).place, (-2, -5))
        self.refuses(InTheWay, words + " forth")

    def test_a_write_with_the_root_alone(self):
        for number in (0, 1, 36, 64, 65, 72):
            self.refuses(InTheWay, f"w{number}")
            self.refuses(InTheWay, f"left w{number}")
            self.refuses(InTheWay, f"forth w0 w{number}")
            self.refuses(InTheWay, f"d2 forth d3 w{number}" if not 65 <= number <= 68 else f"d2 forth d2 w0 w{number}")
        self.assertEqual(walk("forth w1").cells, {(0, -1): ("wire", 0, 0)})

    def test_an_arm_whose_front_is_on_the_trail(self):
        # The walker stands at (-1, -2); its trail is the root, the head, (0, -1) and (0, -2).
        base = "d2 forth left forth "
        self.refuses(InTheWay, base + "w65")
        for number in (66, 67, 68):
            self.assertEqual(len(walk(base + f"w{number}").cells), 1)
        # At (0, -1) the front of an arm to the south is the head's place, which is on the trail.
        self.refuses(InTheWay, "forth w68")
        self.refuses(InTheWay, "d2 forth left d2 forth d2 w65")
        for number in (65, 66, 67):
            self.assertEqual(len(walk(f"forth w{number}").cells), 1)
        # Beside an older part of the trail, too.
        bend = "d3 forth left d2 forth left d2 forth left forth "
        for number, good in ((65, False), (66, True), (67, False), (68, True)):
            if good:
                self.assertEqual(len(walk(bend + f"w{number}").cells), 1)
            else:
                self.refuses(InTheWay, bend + f"w{number}")

    def rows_beside(self, top, many):
        """Words that go back from (0, -top) with the trail below, for this many new places on both sides."""
        words, left = [], many
        for _ in range(top):
            for turn, back in (("left", "right"), ("right", "left")):
                out = min(left, 200)
                if out:
                    digits = f"d{out // 16} d{out % 16}"
                    words.append(f"{turn} {digits} forth {digits} w0 {back}")
                    left -= out
            if left:
                words.append("w0")
        self.assertEqual(left, 0)
        return " ".join(words)

    def test_4096_places(self):
        # 40 places up the column, and (0, 0); the others beside it.
        base = forth(40) + " "
        made = walk(base + self.rows_beside(40, 4096 - 41))
        self.assertEqual(len(made.road), 4096)
        self.assertEqual(len(set(made.road)), 4096)
        self.refuses(NoRoom, base + self.rows_beside(40, 4096 - 40))
        # Places that were visited before do not count again.
        full = base + self.rows_beside(40, 4096 - 41)
        self.assertEqual(made.place, (0, -30))
        self.assertEqual(len(walk(full + " d10 forth").road), 4096)
        self.refuses(NoRoom, full + " d11 forth")
        self.assertEqual(len(walk(full + " forth left d12 d8 forth").road), 4096)
        self.refuses(NoRoom, full + " w0 left forth")

    def test_at_the_4097th_place_the_other_rules_come_first(self):
        # An arm at (-1, -40) that looks to the north, where nobody has been, and a wire at (1, -40).
        base = forth(41) + " w0 left forth w66 right right forth w1 left w0 "
        full = base + self.rows_beside(39, 4096 - 44)
        made = walk(full)
        self.assertEqual(len(made.road), 4096)
        self.assertEqual(made.cells, {(-1, -40): ("arm", 1, 1, 0, 0), (1, -40): ("wire", 0, 0)})
        self.assertEqual((made.place, made.direction), ((0, -29), 1))
        self.refuses(InTheWay, full + " d12 forth left forth")
        self.refuses(NoRoom, full + " d12 forth right forth")
        self.refuses(NoRoom, full + " d13 forth")
        self.assertEqual(len(walk(full + " d12 forth").road), 4096)

    def test_to_the_south_of_the_first_row_the_bound_comes_first(self):
        # The head's place is on the trail, and out of bounds too.
        self.refuses(NoRoom, "forth left left forth")
        self.refuses(NoRoom, "left left forth")
        self.refuses(NoRoom, "left left d2 forth")


class RunTest(unittest.TestCase):
    """What a constructor does with a tape is what the tape means."""

    def test_by_a_run(self):
        rng = random.Random(112)
        tried = 0
        while tried < 12:
            drawn = random_walk_tape(rng, rng.choice([5, 10, 15]))
            if Walk(drawn).error or drawn[-2] != STOP:
                continue
            made = meaning(drawn)
            kinds = [state[0] for state in made.cells.values()]
            if not kinds or any(kind in ("arm", "head", "reader") or state[2:] in ((8,), (9,)) for kind, state in zip(kinds, made.cells.values())):
                continue
            tried += 1
            pattern, middle = loaded(drawn)
            engine = Engine(pattern)
            self.assertTrue(engine.settle(20000) > 0)
            left = {(x - middle, y): state for (x, y), state in engine.pattern().items() if y < 0}
            self.assertEqual(left, made.cells)


if __name__ == "__main__":
    unittest.main()
