"""1.11 to 1.13: the reader. It points east with its side to the north, unless a test says otherwise."""

import unittest

from ramet.kinds import END, FORTH, LEFT, PORT, START, STOP, WRITE

from ramet.space import run

from tests.helpers import EAST, NORTH, SOUTH, STEPS, WEST, RuleCase, cell_around, loaded


def reader(phase, ask, sent, sym, side=0):
    return ("reader", EAST, side, phase, ask, sent, sym)


def root(ask=0, sym=0, way=NORTH):
    return ("arm", way, 1, ask, sym)


FRONT = ("wire", EAST, 0)


def bringing(sym, **more):
    return cell_around(west=("wire", EAST, sym), **more)


class TakingTest(RuleCase):
    """1.12: each row of the table; sent is 0 where there is to be a copy, otherwise 2."""

    ROWS = (
        (0, (END,), 1, False),
        (0, (LEFT, FORTH, PORT, STOP, START, 8, 23, WRITE, 96), 0, False),
        (1, (START,), 2, False),
        (1, (LEFT, FORTH, PORT, STOP, END, 8, 23, WRITE, 96), 1, False),
        (2, (PORT,), 5, True),
        (2, (STOP,), 6, True),
        (2, (LEFT, FORTH, START, END, 8, 23, WRITE, 96), 2, True),
        (5, (START,), 3, True),
        (5, (LEFT, FORTH, PORT, STOP, END, 8, 23, WRITE, 96), 5, False),
        (3, (START,), 4, False),
        (3, (LEFT, FORTH, PORT, STOP, END, 8, 23, WRITE, 96), 3, True),
        (6, (START,), 4, False),
        (6, (LEFT, FORTH, PORT, STOP, END, 8, 23, WRITE, 96), 6, False),
    )

    def test_each_row(self):
        for phase, symbols, after, copy in self.ROWS:
            for sym in symbols:
                for ask in (0, 1, 2):
                    expected = reader(after, ask, 0 if copy else 2, sym)
                    self.becomes(reader(phase, ask, 0, 0), bringing(sym), expected)
                    expected = reader(after, ask, 0 if copy else 2, sym, 1)
                    self.becomes(reader(phase, ask, 0, 0, 1), bringing(sym), expected)

    def test_takes_from_the_back_only(self):
        around = cell_around(east=("wire", WEST, 9), north=("wire", SOUTH, 9), south=("wire", NORTH, 9))
        for phase in (0, 1, 2, 3, 5, 6):
            self.stays(reader(phase, 0, 0, 0), around)

    def test_takes_nothing_while_it_holds_something(self):
        for sent in (0, 1, 2):
            self.stays(reader(2, 0, sent, 9), bringing(5))

    def test_does_not_take_in_the_step_in_which_it_gives(self):
        self.becomes(reader(2, 0, 2, 9), bringing(5, east=FRONT), reader(2, 0, 0, 0))

    def test_a_symbol_taken_is_not_given_in_the_same_step(self):
        self.becomes(reader(2, 1, 0, 0), bringing(9, east=FRONT, north=root()), reader(2, 1, 0, 9))


class CopyOfTheTapeTest(unittest.TestCase):
    """1.12: behind PORT, the reader gives the whole tape to the port, from START to END, and parks."""

    def test_from_start_to_end(self):
        for commands, way in (((FORTH,), NORTH), ((FORTH, 8, 23), NORTH), ((FORTH, LEFT), WEST), ((FORTH, 2), EAST)):
            tape = (START,) + commands + (PORT, END)
            pattern, middle = loaded(tape)
            dx, dy = STEPS[way]
            row = [(middle + k * dx, k * dy - 1) for k in range(1, len(tape) + 3)]
            pattern.update({place: ("wire", way, 0) for place in row})
            after = run(pattern, 400)
            held = [after[place][2] for place in reversed(row) if after[place][2]]
            self.assertEqual(tuple(held), tape)
            self.assertEqual(after[middle, 2][:4], ("reader", EAST, 0, 4))
            self.assertNotIn((middle, -1), after)


class GivingTest(RuleCase):
    """1.11: to the front, and the copy to the root."""

    def test_to_the_front(self):
        for phase in (0, 1, 2, 3, 5, 6):
            self.becomes(reader(phase, 0, 0, 9), cell_around(east=FRONT), reader(phase, 0, 1, 9))
            self.becomes(reader(phase, 0, 2, 9), cell_around(east=FRONT), reader(phase, 0, 0, 0))
            self.stays(reader(phase, 0, 1, 9), cell_around(east=FRONT))
            self.stays(reader(phase, 0, 0, 9), cell_around(east=("wire", EAST, 5)))
            self.stays(reader(phase, 0, 0, 9), cell_around(south=("wire", SOUTH, 0)))

    def test_the_copy(self):
        for phase in (0, 1, 2, 3, 5, 6):
            for ask, after in ((1, 0), (2, 2)):
                beside = cell_around(north=root())
                both = cell_around(east=FRONT, north=root())
                self.becomes(reader(phase, ask, 0, 9), beside, reader(phase, after, 2, 9))
                self.becomes(reader(phase, ask, 1, 9), beside, reader(phase, after, 0, 0))
                self.becomes(reader(phase, ask, 0, 9), both, reader(phase, after, 0, 0))
                self.stays(reader(phase, ask, 2, 9), beside)
                self.becomes(reader(phase, ask, 2, 9), both, reader(phase, ask, 0, 0))

    def test_no_copy_without_ask(self):
        self.stays(reader(2, 0, 0, 9), cell_around(north=root()))
        self.becomes(reader(2, 0, 0, 9), cell_around(east=FRONT, north=root()), reader(2, 0, 1, 9))

    def test_no_copy_to_a_root_that_holds_a_symbol(self):
        for ask in (1, 2):
            self.stays(reader(2, ask, 0, 9), cell_around(north=root(sym=5)))

    def test_an_ask_is_not_used_up_without_a_symbol(self):
        for ask in (1, 2):
            self.stays(reader(2, ask, 0, 0), cell_around(north=root()))

    def test_what_is_no_root(self):
        for other in (
            None, ("arm", NORTH, 0, 0, 0), root(way=EAST), root(way=WEST), root(way=SOUTH),
            ("head", NORTH, 1, 0, 0), ("port", NORTH, 1, 0), ("wire", NORTH, 0), ("stretch", NORTH, 1), ("fade",),
        ):
            for ask in (1, 2):
                self.stays(reader(2, ask, 0, 9), cell_around(north=other))
                self.stays(reader(2, ask, 2, 9), cell_around(north=other))

    def test_the_root_is_at_the_side_alone(self):
        self.stays(reader(2, 1, 0, 9), cell_around(south=root(way=SOUTH)))
        self.stays(reader(2, 1, 0, 9, 1), cell_around(north=root()))
        self.becomes(reader(2, 1, 0, 9, 1), cell_around(south=root(way=SOUTH)), reader(2, 0, 2, 9, 1))
        self.stays(reader(2, 1, 0, 9), cell_around(west=root(way=WEST)))


class AskTest(RuleCase):
    """1.13, first sentence: a reader asks as its root asks."""

    def test_takes_over_the_ask_of_its_root(self):
        for phase in (0, 1, 2, 3, 5, 6):
            for before in (0, 1, 2):
                for ask in (1, 2):
                    self.becomes(reader(phase, before, 0, 0), cell_around(north=root(ask)), reader(phase, ask, 0, 0))

    def test_keeps_its_own_while_the_root_does_not_ask(self):
        for before in (0, 1, 2):
            self.stays(reader(2, before, 0, 0), cell_around(north=root()))

    def test_also_if_its_own_was_used_up_in_this_step(self):
        for before in (1, 2):
            for ask in (1, 2):
                self.becomes(reader(2, before, 0, 9), cell_around(north=root(ask)), reader(2, ask, 2, 9))

    def test_also_while_the_root_holds_a_symbol(self):
        self.becomes(reader(2, 0, 0, 9), cell_around(north=root(1, 5)), reader(2, 1, 0, 9))

    def test_a_new_ask_gives_no_copy_in_the_same_step(self):
        self.becomes(reader(2, 0, 0, 9), cell_around(north=root(1)), reader(2, 1, 0, 9))

    def test_an_arm_that_is_no_root_does_not_count(self):
        self.stays(reader(2, 0, 0, 0), cell_around(north=("arm", NORTH, 0, 2, 0)))
        self.stays(reader(2, 0, 0, 0), cell_around(north=root(1, way=EAST)))
        self.stays(reader(2, 0, 0, 0), cell_around(north=root(1, way=SOUTH)))


class ParkedTest(RuleCase):
    def test_keeps_its_symbol_and_gives_nothing(self):
        for ask in (0, 1, 2):
            parked = reader(4, ask, 2, START)
            self.stays(parked, cell_around(east=FRONT))
            self.stays(parked, bringing(9, east=FRONT, north=root()))

    def test_asks_as_its_root_asks(self):
        for ask in (1, 2):
            self.becomes(reader(4, 0, 2, START), cell_around(north=root(ask)), reader(4, ask, 2, START))

    def test_its_root_takes_nothing(self):
        around = cell_around(south=reader(4, 2, 2, START))
        self.stays(("arm", NORTH, 1, 0, 0), around)


class RegrowTest(RuleCase):
    """1.13: a regrow at the side that points away."""

    BESIDE = ("regrow", NORTH)

    def test_phases(self):
        for phase, after in ((0, 0), (1, 1), (2, 6), (3, 3), (5, 6), (6, 6)):
            for ask in (0, 1, 2):
                around = cell_around(north=self.BESIDE)
                self.becomes(reader(phase, ask, 0, 0), around, reader(after, 1, 0, 0))

    def test_a_symbol_taken_in_this_step_is_read_in_phase_6(self):
        for phase in (2, 5, 6):
            for sym in (LEFT, FORTH, PORT, STOP, END, 9, WRITE):
                self.becomes(reader(phase, 0, 0, 0), bringing(sym, north=self.BESIDE), reader(6, 1, 2, sym))
            self.becomes(reader(phase, 0, 0, 0), bringing(START, north=self.BESIDE), reader(4, 1, 2, START))

    def test_the_copy_of_a_symbol_held_counts_as_given(self):
        for phase, after in ((0, 0), (1, 1), (2, 6), (3, 3), (5, 6), (6, 6)):
            for ask in (0, 1, 2):
                alone = cell_around(north=self.BESIDE)
                with_front = cell_around(north=self.BESIDE, east=FRONT)
                self.becomes(reader(phase, ask, 0, 9), alone, reader(after, 1, 2, 9))
                self.becomes(reader(phase, ask, 1, 9), alone, reader(after, 1, 0, 0))
                self.becomes(reader(phase, ask, 2, 9), alone, reader(after, 1, 2, 9))
                self.becomes(reader(phase, ask, 0, 9), with_front, reader(after, 1, 0, 0))
                self.becomes(reader(phase, ask, 2, 9), with_front, reader(after, 1, 0, 0))

    def test_parked(self):
        for ask in (0, 1, 2):
            around = cell_around(north=self.BESIDE, east=FRONT)
            self.becomes(reader(4, ask, 2, START), around, reader(4, 1, 2, START))

    def test_other_regrows_do_not_matter(self):
        for around in (
            cell_around(north=("regrow", EAST)), cell_around(north=("regrow", SOUTH)),
            cell_around(north=("regrow", WEST)), cell_around(south=("regrow", SOUTH)),
            cell_around(east=("regrow", EAST)), cell_around(west=("regrow", WEST)),
        ):
            self.stays(reader(2, 0, 0, 0), around)
            self.stays(reader(5, 2, 1, 9), around)
        self.becomes(reader(2, 0, 0, 0, 1), cell_around(south=("regrow", SOUTH)), reader(6, 1, 0, 0, 1))


if __name__ == "__main__":
    unittest.main()
