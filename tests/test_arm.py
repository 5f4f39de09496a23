"""1.14 to 1.20: arm, head, stretch, retreat, ground, port, fade and regrow.

The cell of interest points east, and RuleCase turns it.
"""

import unittest

from ramet.kinds import DIGIT, END, FORTH, LEFT, PORT, RIGHT, START, STOP, WRITE
from ramet.yard import next_state

from tests.helpers import EAST, NORTH, SOUTH, WEST, RuleCase, cell_around
from tests.model import written_table

POINTING = {EAST: WEST, NORTH: SOUTH, WEST: EAST, SOUTH: NORTH}


def arm(root=0, ask=0, sym=0, way=EAST):
    return ("arm", way, root, ask, sym)


def head(phase, sym, count, way=EAST):
    return ("head", way, phase, sym, count)


def held_by_arm(way, sym, root=0):
    """Neighbours of which the one in a direction is an arm that points here and holds a symbol."""
    around = [None] * 4
    around[way] = ("arm", POINTING[way], root, 0, sym)
    return around


class ArmFadesTest(RuleCase):
    def test_at_a_fade(self):
        for ask, sym in ((0, 0), (1, 0), (0, 9), (2, 96)):
            self.becomes(arm(0, ask, sym), cell_around(east=("fade",)), ("fade",))
            self.becomes(arm(1, ask, sym), cell_around(east=("fade",)), ("regrow", EAST))

    def test_what_was_given_is_lost(self):
        self.becomes(arm(0), cell_around(east=("fade",), west=arm(0, 0, 9)), ("fade",))
        reader = ("reader", NORTH, 1, 2, 1, 0, 9)
        self.becomes(arm(1), cell_around(east=("fade",), west=reader), ("regrow", EAST))
        self.becomes(arm(0, 0, 9), cell_around(east=arm(0)), arm(0))
        self.becomes(reader, cell_around(east=arm(1)), ("reader", NORTH, 1, 2, 0, 2, 9))

    def test_a_fade_elsewhere_does_not_matter(self):
        for around in (cell_around(north=("fade",)), cell_around(west=("fade",)), cell_around(south=("fade",))):
            self.stays(arm(0), around)
            self.stays(arm(1), around)


class ArmRetreatsTest(RuleCase):
    def test_from_a_head_that_writes(self):
        for way in range(4):
            for sym in (WRITE, WRITE + 1, 96):
                for count in (1, 2, 255):
                    front = head(2, sym, count, way)
                    self.becomes(arm(0), cell_around(east=front), ("retreat", EAST, sym, count))
                    self.becomes(arm(0, 2, 9), cell_around(east=front), ("retreat", EAST, sym, count))

    def test_what_was_given_is_lost(self):
        around = cell_around(east=head(2, WRITE, 1), west=arm(0, 0, 9))
        self.becomes(arm(0), around, ("retreat", EAST, WRITE, 1))

    def test_not_a_root(self):
        self.stays(arm(1), cell_around(east=head(2, WRITE, 1)))
        self.stays(arm(1, 0, 9), cell_around(east=head(2, WRITE, 1)))

    def test_not_from_other_heads(self):
        self.stays(arm(0), cell_around(east=head(2, FORTH, 1)))
        self.stays(arm(0), cell_around(east=head(1, 0, 1)))
        self.stays(arm(0), cell_around(north=head(2, WRITE, 1)))
        self.stays(arm(0), cell_around(west=head(2, WRITE, 1)))
        self.stays(arm(0), cell_around(east=("retreat", EAST, WRITE, 1)))


class ArmAsksTest(RuleCase):
    def asks(self, front, expected):
        for root in (0, 1):
            for before in (0, 1, 2):
                self.becomes(arm(root, before), cell_around(east=front), arm(root, expected))

    def test_heads(self):
        for way in range(4):
            self.asks(head(0, 0, 5, way), 1)
            self.asks(head(1, 0, 5, way), 0)
            self.asks(head(2, FORTH, 5, way), 0)

    def test_a_root_before_a_head_that_writes(self):
        self.becomes(arm(1, 2), cell_around(east=head(2, WRITE, 1)), arm(1, 0))

    def test_ports(self):
        for way in range(4):
            self.asks(("port", way, 0, 0), 2)
            self.asks(("port", way, 1, 0), 0)
            self.asks(("port", way, 1, 9), 0)

    def test_arms(self):
        for ask in (0, 1, 2):
            for root in (0, 1):
                for way in (EAST, NORTH, SOUTH):
                    self.asks(arm(root, ask, 0, way), ask)
                    self.asks(arm(root, ask, 9, way), ask)
                self.asks(arm(root, ask, 0, WEST), 0)

    def test_nothing_else(self):
        for front in (
            None, ("wire", EAST, 9), ("reader", EAST, 0, 2, 2, 0, 9), ("stretch", EAST, 1),
            ("retreat", EAST, WRITE, 1), ("regrow", EAST), ("not", WEST, 0), ("join", EAST, 0, 0, 0),
        ):
            self.asks(front, 0)

    def test_the_other_neighbours_are_not_asked(self):
        for other in (head(0, 0, 0), ("port", EAST, 0, 0), arm(0, 2)):
            for around in (cell_around(north=other), cell_around(west=other), cell_around(south=other)):
                self.stays(arm(0), around)


class ArmGivesTest(RuleCase):
    def gives(self, front):
        for root in (0, 1):
            self.becomes(arm(root, 0, 9), cell_around(east=front), arm(root))

    def keeps(self, front, ask=0):
        for root in (0, 1):
            self.becomes(arm(root, 0, 9), cell_around(east=front), arm(root, ask, 9))

    def test_to_an_arm(self):
        for way in (EAST, NORTH, SOUTH):
            self.gives(arm(0, 0, 0, way))
            self.keeps(arm(0, 0, 5, way))
            self.keeps(arm(1, 0, 0, way))
        self.keeps(arm(0, 0, 0, WEST))

    def test_to_a_head(self):
        for way in range(4):
            self.gives(head(1, 0, 0, way))
            self.gives(head(1, 0, 7, way))
            self.keeps(head(0, 0, 0, way), 1)
            self.keeps(head(2, FORTH, 1, way))

    def test_to_a_port(self):
        for way in range(4):
            self.gives(("port", way, 1, 0))
            self.keeps(("port", way, 1, 5))
            self.keeps(("port", way, 0, 0), 2)

    def test_to_nothing_else(self):
        for front in (None, ("wire", EAST, 0), ("reader", EAST, 0, 0, 0, 0, 0), ("stretch", EAST, 1), ("regrow", EAST)):
            self.keeps(front)

    def test_not_to_its_other_neighbours(self):
        for way in (NORTH, WEST, SOUTH):
            around = [None] * 4
            around[way] = arm(0, 0, 0, way)
            self.stays(arm(0, 0, 9), around)

    def test_does_not_take_in_the_step_in_which_it_gives(self):
        self.becomes(arm(0, 0, 9), cell_around(east=arm(0), west=arm(0, 0, 5)), arm(0))


class ArmTakesTest(RuleCase):
    def test_from_arms_that_point_into_it(self):
        for sym in (1, 9, 96):
            for root in (0, 1):
                for way in (NORTH, WEST, SOUTH):
                    self.becomes(arm(0), held_by_arm(way, sym, root), arm(0, 0, sym))
                self.stays(arm(0), held_by_arm(EAST, sym, root))

    def test_order_back_left_right(self):
        back, left, right = arm(0, 0, 1), arm(0, 0, 2, SOUTH), arm(0, 0, 3, NORTH)
        self.becomes(arm(0), cell_around(west=back, north=left, south=right), arm(0, 0, 1))
        self.becomes(arm(0), cell_around(north=left, south=right), arm(0, 0, 2))
        self.becomes(arm(0), cell_around(west=back, south=right), arm(0, 0, 1))
        self.becomes(arm(0), cell_around(west=arm(0), south=right), arm(0, 0, 3))
        self.becomes(arm(0), cell_around(west=arm(0), north=left), arm(0, 0, 2))

    def test_all_givers_have_given(self):
        self.becomes(arm(0, 0, 2, SOUTH), cell_around(south=arm(0)), arm(0, 0, 0, SOUTH))
        self.becomes(arm(0, 0, 3, NORTH), cell_around(north=arm(0)), arm(0, 0, 0, NORTH))

    def test_not_from_arms_that_point_elsewhere_nor_from_net_cells(self):
        for way in (EAST, NORTH, SOUTH):
            self.stays(arm(0), cell_around(north=arm(0, 0, 9, way if way != SOUTH else WEST)))
        self.stays(arm(0), cell_around(west=("wire", EAST, 9)))
        self.stays(arm(0), cell_around(west=("port", EAST, 1, 9)))
        self.stays(arm(0), cell_around(west=("reader", EAST, 0, 2, 2, 0, 9)))

    def test_keeps_what_it_holds(self):
        for way in range(4):
            self.stays(arm(0, 0, 5), held_by_arm(way, 9))

    def test_a_root_takes_from_no_arm(self):
        for way in range(4):
            self.stays(arm(1), held_by_arm(way, 9))


class RootTakesTest(RuleCase):
    """The root points east; its reader lies to the west, with its side to the east."""

    READERS = ((NORTH, 1), (SOUTH, 0))

    def test_the_copy(self):
        for way, side in self.READERS:
            for phase in (0, 1, 2, 3, 5, 6):
                for ask in (1, 2):
                    for sent, sym in ((0, 9), (1, 9), (2, 0)):
                        around = cell_around(west=("reader", way, side, phase, ask, sent, 9))
                        self.becomes(arm(1), around, arm(1, 0, sym))

    def test_no_copy(self):
        for way, side in self.READERS:
            for reader in (
                ("reader", way, side, 2, 0, 0, 9), ("reader", way, side, 2, 1, 0, 0),
                ("reader", way, side, 4, 2, 2, START), ("reader", way, 1 - side, 2, 1, 0, 9),
            ):
                self.stays(arm(1), cell_around(west=reader))
        for side in (0, 1):
            self.stays(arm(1), cell_around(west=("reader", EAST, side, 2, 1, 0, 9)))
            self.stays(arm(1), cell_around(west=("reader", WEST, side, 2, 1, 0, 9)))

    def test_not_while_it_holds_a_symbol(self):
        self.stays(arm(1, 0, 5), cell_around(west=("reader", NORTH, 1, 2, 2, 0, 9)))
        around = cell_around(west=("reader", NORTH, 1, 2, 2, 0, 9), east=arm(0))
        self.becomes(arm(1, 0, 5), around, arm(1))

    def test_not_from_a_reader_elsewhere(self):
        self.stays(arm(1), cell_around(north=("reader", EAST, 1, 2, 1, 0, 9)))
        self.stays(arm(1), cell_around(north=("reader", WEST, 1, 2, 1, 0, 9)))
        self.stays(arm(1), cell_around(south=("reader", EAST, 0, 2, 1, 0, 9)))

    def test_an_arm_that_is_no_root_takes_none(self):
        self.stays(arm(0), cell_around(west=("reader", NORTH, 1, 2, 1, 0, 9)))


class HeadTest(RuleCase):
    def test_phase_0(self):
        for count in (0, 1, 255):
            self.becomes(head(0, 0, count), cell_around(), head(1, 0, count))
            self.becomes(head(0, 0, count), held_by_arm(WEST, 9), head(1, 0, count))

    def obeys(self, count, sym, expected):
        for way in range(4):
            for root in (0, 1):
                self.becomes(head(1, 0, count), held_by_arm(way, sym, root), expected)

    def test_digits(self):
        for digit in range(16):
            for count in (0, 1, 2, 14, 15):
                self.obeys(count, DIGIT + digit, head(0, 0, 16 * count + digit))
            for count in (16, 17, 254, 255):
                self.obeys(count, DIGIT + digit, head(0, 0, 255))

    def test_turns(self):
        for count in (0, 1, 255):
            self.obeys(count, LEFT, head(0, 0, 0, NORTH))
            self.obeys(count, RIGHT, head(0, 0, 0, SOUTH))

    def test_forth_and_writes(self):
        for sym in (FORTH, WRITE, WRITE + 1, 95, 96):
            self.obeys(0, sym, head(2, sym, 1))
            for count in (1, 2, 255):
                self.obeys(count, sym, head(2, sym, count))

    def test_port_and_stop(self):
        for count in (0, 1, 255):
            self.obeys(count, PORT, ("port", EAST, 0, 0))
            self.obeys(count, STOP, ("fade",))

    def test_other_symbols(self):
        for count in (0, 1, 255):
            self.obeys(count, START, head(0, 0, 0))
            self.obeys(count, END, head(0, 0, 0))

    def test_order_back_left_right_front(self):
        back, left = arm(0, 0, DIGIT + 1), arm(0, 0, DIGIT + 2, SOUTH)
        right, front = arm(0, 0, DIGIT + 3, NORTH), arm(0, 0, DIGIT + 4, WEST)
        for around, digit in (
            (cell_around(west=back, north=left, south=right, east=front), 1),
            (cell_around(north=left, south=right, east=front), 2),
            (cell_around(south=right, east=front), 3),
            (cell_around(east=front), 4),
            (cell_around(west=arm(0), south=right, east=front), 3),
        ):
            self.becomes(head(1, 0, 0), around, head(0, 0, digit))

    def test_waits_for_a_symbol(self):
        for count in (0, 5):
            self.stays(head(1, 0, count), cell_around())
            self.stays(head(1, 0, count), held_by_arm(WEST, 0))
            self.stays(head(1, 0, count), cell_around(west=arm(0, 0, 9, NORTH)))
            self.stays(head(1, 0, count), cell_around(west=("wire", EAST, 9), north=("port", SOUTH, 1, 9)))
            self.stays(head(1, 0, count), cell_around(west=("reader", NORTH, 1, 2, 1, 0, 9)))

    def test_forth(self):
        for count in (1, 2, 255):
            self.becomes(head(2, FORTH, count), cell_around(), ("stretch", EAST, count))
            others = cell_around(north=arm(0), west=arm(0), south=("wire", EAST, 0))
            self.becomes(head(2, FORTH, count), others, ("stretch", EAST, count))
            for front in (("wire", EAST, 0), ("fade",), arm(0), head(1, 0, 0), ("stretch", WEST, 1), ("regrow", WEST)):
                self.becomes(head(2, FORTH, count), cell_around(east=front), ("fade",))

    def test_writes_at_a_retreat(self):
        for i, state in enumerate(written_table()):
            for way in range(4):
                around = [None] * 4
                around[way] = ("retreat", POINTING[way], WRITE + i, 1)
                # What is written keeps its own direction, so this is not turned by RuleCase.
                self.assertEqual(next_state(head(2, WRITE + i, 1), around), state)
                self.assertEqual(next_state(head(2, WRITE + i, 7, NORTH), around), state)

    def test_a_retreat_comes_before_a_root(self):
        around = cell_around(west=("retreat", EAST, WRITE, 1), north=arm(1, 0, 0, SOUTH))
        self.assertIsNone(next_state(head(2, WRITE, 1), around))
        around = cell_around(south=("retreat", NORTH, WRITE, 1), north=arm(1, 0, 0, SOUTH))
        self.assertIsNone(next_state(head(2, WRITE, 1), around))

    def test_a_root_that_points_into_it(self):
        for way in range(4):
            for sym in (WRITE, 96):
                self.becomes(head(2, sym, 9), held_by_arm(way, 0, 1), head(0, 0, 0))
                self.becomes(head(2, sym, 9), held_by_arm(way, 5, 1), head(0, 0, 0))

    def test_otherwise_it_stays(self):
        for around in (
            cell_around(), held_by_arm(WEST, 0), held_by_arm(WEST, 9), cell_around(west=arm(1, 0, 0, NORTH)),
            cell_around(west=("retreat", NORTH, WRITE, 1)), cell_around(west=("retreat", WEST, WRITE, 1)),
            cell_around(east=("retreat", EAST, WRITE, 1)), cell_around(west=("stretch", EAST, 1)),
        ):
            self.stays(head(2, WRITE, 3), around)
            self.stays(head(2, 96, 255), around)


class GrowingTest(RuleCase):
    def test_stretch(self):
        for count in (1, 2, 255):
            for around in (cell_around(), cell_around(east=("wire", EAST, 0)), cell_around(east=("fade",))):
                self.becomes(("stretch", EAST, count), around, arm(0))

    def test_retreat(self):
        for sym in (WRITE, 60, 96):
            for around in (cell_around(), cell_around(east=("fade",), west=arm(0, 0, 9))):
                self.becomes(("retreat", EAST, sym, 1), around, head(0, 0, 0))
                self.becomes(("retreat", EAST, sym, 2), around, head(2, sym, 1))
                self.becomes(("retreat", EAST, sym, 255), around, head(2, sym, 254))

    def test_fade_and_regrow(self):
        for around in (cell_around(), cell_around(east=("fade",)), held_by_arm(WEST, 9)):
            self.becomes(("fade",), around, None)
            self.becomes(("regrow", EAST), around, arm(1))

    def test_ground_beside_one_that_grows(self):
        self.becomes(None, cell_around(west=("stretch", EAST, 1)), head(0, 0, 0))
        self.becomes(None, cell_around(west=("stretch", EAST, 2)), head(2, FORTH, 1))
        self.becomes(None, cell_around(west=("stretch", EAST, 255)), head(2, FORTH, 254))
        self.becomes(None, cell_around(west=("regrow", EAST)), head(1, 0, 0))

    def test_ground_beside_several(self):
        growing = [
            cell_around(west=first, north=second)
            for first in (("stretch", EAST, 1), ("regrow", EAST), ("stretch", EAST, 9))
            for second in (("stretch", SOUTH, 1), ("regrow", SOUTH))
        ]
        growing.append(cell_around(west=("stretch", EAST, 1), east=("stretch", WEST, 1)))
        growing.append(cell_around(("stretch", WEST, 1), ("regrow", SOUTH), ("stretch", EAST, 1), ("regrow", NORTH)))
        for around in growing:
            self.becomes(None, around, None)

    def test_one_that_grows_elsewhere_does_not_count(self):
        around = cell_around(west=("stretch", EAST, 1), north=("stretch", EAST, 1), south=("regrow", SOUTH))
        self.becomes(None, around, head(0, 0, 0))
        for way in (NORTH, WEST, SOUTH):
            self.becomes(None, cell_around(west=("stretch", way, 1)), None)
            self.becomes(None, cell_around(west=("regrow", way)), None)

    def test_ground_takes_nothing(self):
        for other in (("wire", EAST, 9), arm(0, 0, 9), head(2, FORTH, 1), ("port", EAST, 1, 9), ("fade",)):
            self.becomes(None, cell_around(west=other), None)


class PortTest(RuleCase):
    def test_phase_0(self):
        self.becomes(("port", EAST, 0, 0), cell_around(), ("port", EAST, 1, 0))
        self.becomes(("port", EAST, 0, 0), held_by_arm(WEST, 9), ("port", EAST, 1, 0))

    def test_takes_from_back_left_and_right(self):
        for sym in (1, END, 96):
            for root in (0, 1):
                for way in (NORTH, WEST, SOUTH):
                    self.becomes(("port", EAST, 1, 0), held_by_arm(way, sym, root), ("port", EAST, 1, sym))
                self.stays(("port", EAST, 1, 0), held_by_arm(EAST, sym, root))

    def test_order_back_left_right(self):
        back, left, right = arm(0, 0, 1), arm(0, 0, 2, SOUTH), arm(0, 0, 3, NORTH)
        for around, sym in (
            (cell_around(west=back, north=left, south=right), 1),
            (cell_around(north=left, south=right), 2),
            (cell_around(west=arm(0), south=right), 3),
        ):
            self.becomes(("port", EAST, 1, 0), around, ("port", EAST, 1, sym))

    def test_takes_from_no_other_cells(self):
        self.stays(("port", EAST, 1, 0), cell_around(west=("wire", EAST, 9), north=arm(0, 0, 9, EAST)))
        self.stays(("port", EAST, 1, 0), cell_around(west=("reader", NORTH, 1, 2, 2, 0, 9)))

    def test_gives_to_the_front(self):
        takers = (("wire", EAST, 0), ("not", NORTH, 0), ("join", EAST, 0, 1, 0), ("reader", EAST, 0, 0, 0, 0, 0))
        for front in takers:
            for sym in (1, START, 96):
                self.becomes(("port", EAST, 1, sym), cell_around(east=front), ("port", EAST, 1, 0))
            self.becomes(("port", EAST, 1, END), cell_around(east=front), ("fade",))
            self.stays(("port", EAST, 1, 0), cell_around(east=front))

    def test_keeps_what_nobody_takes(self):
        for front in (None, ("wire", EAST, 5), ("wire", WEST, 0), ("join", EAST, 0, 0, 0), arm(0), head(1, 0, 0)):
            for sym in (1, END):
                self.stays(("port", EAST, 1, sym), cell_around(east=front))
                self.stays(("port", EAST, 1, sym), cell_around(east=front, west=arm(0, 0, 9)))
        self.stays(("port", EAST, 1, END), cell_around(north=("wire", NORTH, 0)))


if __name__ == "__main__":
    unittest.main()
