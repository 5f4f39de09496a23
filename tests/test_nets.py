"""1.5 to 1.10: net cells. The cell of interest points east, and RuleCase turns it."""

import unittest

from ramet.kinds import END, LEFT, ONE, START, STOP, ZERO

from tests.helpers import EAST, NORTH, SOUTH, WEST, RuleCase, cell_around

SYMBOLS = (1, 4, 5, 6, 7, 8, 9, 10, 24, 96)
# Wires that offer a symbol to the cell in the middle, by the direction in which they lie.
POINTING = {EAST: WEST, NORTH: SOUTH, WEST: EAST, SOUTH: NORTH}


def giving(way, sym):
    """Neighbours of which the one in a direction offers a symbol."""
    around = [None] * 4
    around[way] = ("wire", POINTING[way], sym)
    return around


def front_ready():
    return cell_around(east=("wire", EAST, 0))


# Each taker of a symbol that comes from the west, empty.
TAKERS_FROM_WEST = (
    ("wire", EAST, 0), ("wire", NORTH, 0), ("wire", SOUTH, 0),
    ("not", EAST, 0), ("not", NORTH, 0), ("not", SOUTH, 0),
    ("fork", EAST, 0, 0, 0), ("fork", EAST, 1, 0, 0), ("fork", NORTH, 1, 0, 0), ("fork", SOUTH, 0, 0, 0),
    ("cross", EAST, 0, 0, 0), ("cross", EAST, 1, 0, 9), ("cross", NORTH, 1, 0, 0), ("cross", SOUTH, 0, 9, 0),
    ("and", EAST, 0, 0, 0), ("and", EAST, 1, 0, 2), ("and", NORTH, 0, 0, 0), ("and", SOUTH, 1, 2, 0),
    ("or", EAST, 0, 0, 0), ("or", EAST, 1, 0, 1), ("or", NORTH, 0, 0, 0), ("or", SOUTH, 1, 1, 0),
    ("join", EAST, 0, 1, 0), ("join", EAST, 1, 1, 0), ("join", NORTH, 0, 0, 0), ("join", SOUTH, 1, 0, 0),
    ("reader", EAST, 0, 0, 0, 0, 0), ("reader", EAST, 1, 3, 2, 0, 0),
)
# What does not take a symbol that comes from the west.
NOT_TAKERS_FROM_WEST = (
    None, ("fade",), ("wire", WEST, 0), ("wire", EAST, 5), ("not", WEST, 0), ("not", EAST, 5),
    ("fork", WEST, 0, 0, 0), ("fork", EAST, 0, 5, 0), ("fork", EAST, 0, 5, 1), ("fork", NORTH, 0, 0, 0),
    ("fork", SOUTH, 1, 0, 0), ("cross", WEST, 0, 0, 0), ("cross", EAST, 0, 5, 0), ("cross", NORTH, 0, 0, 0),
    ("cross", SOUTH, 1, 0, 0), ("cross", NORTH, 1, 0, 5), ("and", WEST, 0, 0, 0), ("and", EAST, 0, 1, 0),
    ("and", NORTH, 1, 0, 0), ("and", SOUTH, 0, 0, 0), ("and", NORTH, 0, 0, 2), ("or", EAST, 0, 2, 0),
    ("or", WEST, 1, 0, 0), ("or", NORTH, 1, 0, 0), ("or", SOUTH, 1, 0, 1), ("join", EAST, 0, 0, 0),
    ("join", EAST, 0, 1, 5), ("join", NORTH, 0, 1, 0), ("join", NORTH, 1, 0, 0), ("join", NORTH, 0, 0, 5),
    ("join", WEST, 0, 0, 0), ("reader", EAST, 0, 0, 0, 0, 5), ("reader", NORTH, 0, 0, 0, 0, 0),
    ("reader", SOUTH, 0, 0, 0, 0, 0), ("reader", WEST, 0, 0, 0, 0, 0), ("reader", EAST, 0, 4, 0, 2, START),
    ("arm", EAST, 0, 0, 0), ("arm", EAST, 1, 0, 0), ("head", EAST, 1, 0, 0), ("port", EAST, 1, 0),
    ("stretch", EAST, 1), ("retreat", EAST, 24, 1), ("regrow", EAST),
)


class ReadinessTest(RuleCase):
    """1.8: which neighbours take what a wire offers; the wire is empty then."""

    def test_takers(self):
        for taker in TAKERS_FROM_WEST:
            self.becomes(("wire", EAST, 9), cell_around(east=taker), ("wire", EAST, 0))

    def test_those_who_are_not_ready(self):
        for other in NOT_TAKERS_FROM_WEST:
            self.stays(("wire", EAST, 9), cell_around(east=other))

    def test_the_other_neighbours_do_not_matter(self):
        for way in (NORTH, WEST, SOUTH):
            around = [None] * 4
            around[way] = ("wire", way, 0)
            self.stays(("wire", EAST, 9), around)


class WireTest(RuleCase):
    def test_takes_from_back_left_and_right(self):
        for sym in SYMBOLS:
            for way in (NORTH, WEST, SOUTH):
                self.becomes(("wire", EAST, 0), giving(way, sym), ("wire", EAST, sym))
            self.stays(("wire", EAST, 0), giving(EAST, sym))

    def test_takes_nothing_while_it_holds_something(self):
        for way in range(4):
            self.stays(("wire", EAST, 5), giving(way, 9))

    def test_does_not_take_in_the_step_in_which_it_gives(self):
        around = cell_around(east=("wire", EAST, 0), west=("wire", EAST, 9))
        self.becomes(("wire", EAST, 5), around, ("wire", EAST, 0))

    def test_order_back_left_right(self):
        back, left, right = ("wire", EAST, 1), ("wire", SOUTH, 2), ("wire", NORTH, 3)
        self.becomes(("wire", EAST, 0), cell_around(west=back, north=left, south=right), ("wire", EAST, 1))
        self.becomes(("wire", EAST, 0), cell_around(north=left, south=right), ("wire", EAST, 2))
        self.becomes(("wire", EAST, 0), cell_around(west=back, south=right), ("wire", EAST, 1))
        self.becomes(("wire", EAST, 0), cell_around(south=right), ("wire", EAST, 3))

    def test_all_givers_to_one_place_have_given(self):
        for way in (NORTH, WEST, SOUTH):
            giver = ("wire", POINTING[way], 5)
            taker = [None] * 4
            taker[POINTING[way]] = ("wire", EAST, 0)
            self.becomes(giver, taker, ("wire", POINTING[way], 0))

    def test_an_empty_wire_offers_nothing(self):
        self.stays(("wire", EAST, 0), giving(WEST, 0))
        self.stays(("wire", EAST, 0), front_ready())


class NotTest(RuleCase):
    def test_zero_and_one(self):
        for way in (NORTH, WEST, SOUTH):
            self.becomes(("not", EAST, 0), giving(way, ZERO), ("not", EAST, ONE))
            self.becomes(("not", EAST, 0), giving(way, ONE), ("not", EAST, ZERO))
        self.stays(("not", EAST, 0), giving(EAST, ONE))

    def test_another_symbol_makes_zero(self):
        for sym in (1, 3, 7, 10, 23, 24, 96):
            self.becomes(("not", EAST, 0), giving(WEST, sym), ("not", EAST, ZERO))

    def test_gives_what_it_holds(self):
        self.becomes(("not", EAST, 5), front_ready(), ("not", EAST, 0))
        self.stays(("not", EAST, 5), giving(WEST, ONE))
        self.becomes(("wire", EAST, 0), cell_around(west=("not", EAST, 5)), ("wire", EAST, 5))

    def test_order_back_left_right(self):
        left, right = ("wire", SOUTH, ZERO), ("wire", NORTH, ONE)
        self.becomes(("not", EAST, 0), cell_around(north=left, south=right), ("not", EAST, ONE))
        self.becomes(("not", EAST, 0), cell_around(west=("wire", EAST, 5), north=left), ("not", EAST, ZERO))


class ForkTest(RuleCase):
    def test_takes_from_back_and_from_opposite_its_side(self):
        for side, open_way, side_way in ((0, SOUTH, NORTH), (1, NORTH, SOUTH)):
            empty = ("fork", EAST, side, 0, 0)
            for sym in SYMBOLS:
                self.becomes(empty, giving(WEST, sym), ("fork", EAST, side, sym, 0))
                self.becomes(empty, giving(open_way, sym), ("fork", EAST, side, sym, 0))
                self.stays(empty, giving(side_way, sym))
                self.stays(empty, giving(EAST, sym))

    def test_back_comes_first(self):
        around = cell_around(west=("wire", EAST, 1), south=("wire", NORTH, 2))
        self.becomes(("fork", EAST, 0, 0, 0), around, ("fork", EAST, 0, 1, 0))

    def test_gives_to_the_front_and_to_its_side(self):
        front = {"east": ("wire", EAST, 0)}
        for side, beside in ((0, {"north": ("wire", NORTH, 0)}), (1, {"south": ("wire", SOUTH, 0)})):
            self.becomes(("fork", EAST, side, 5, 0), cell_around(**front), ("fork", EAST, side, 5, 1))
            self.becomes(("fork", EAST, side, 5, 0), cell_around(**beside), ("fork", EAST, side, 5, 2))
            self.becomes(("fork", EAST, side, 5, 0), cell_around(**front, **beside), ("fork", EAST, side, 0, 0))
            self.becomes(("fork", EAST, side, 5, 1), cell_around(**beside), ("fork", EAST, side, 0, 0))
            self.becomes(("fork", EAST, side, 5, 2), cell_around(**front), ("fork", EAST, side, 0, 0))
            self.stays(("fork", EAST, side, 5, 1), cell_around(**front))
            self.stays(("fork", EAST, side, 5, 2), cell_around(**beside))
            self.stays(("fork", EAST, side, 5, 0), cell_around())

    def test_does_not_give_to_the_wrong_side(self):
        self.stays(("fork", EAST, 0, 5, 0), cell_around(south=("wire", SOUTH, 0)))
        self.stays(("fork", EAST, 1, 5, 0), cell_around(north=("wire", NORTH, 0)))

    def test_does_not_take_while_it_holds(self):
        self.stays(("fork", EAST, 0, 5, 1), giving(WEST, 9))

    def test_what_its_neighbours_take(self):
        wire = ("wire", EAST, 0)
        for sent, sym in ((0, 5), (1, 0), (2, 5)):
            self.becomes(wire, cell_around(west=("fork", EAST, 0, 5, sent)), ("wire", EAST, sym))
        for sent, sym in ((0, 5), (1, 5), (2, 0)):
            self.becomes(wire, cell_around(west=("fork", SOUTH, 0, 5, sent)), ("wire", EAST, sym))
            self.becomes(wire, cell_around(west=("fork", NORTH, 1, 5, sent)), ("wire", EAST, sym))
            self.stays(wire, cell_around(west=("fork", NORTH, 0, 5, sent)))


class CrossTest(RuleCase):
    def test_each_place_takes_from_its_own_direction(self):
        for side, second in ((0, SOUTH), (1, NORTH)):
            empty = ("cross", EAST, side, 0, 0)
            for sym in SYMBOLS:
                self.becomes(empty, giving(WEST, sym), ("cross", EAST, side, sym, 0))
                self.becomes(empty, giving(second, sym), ("cross", EAST, side, 0, sym))
                self.stays(empty, giving(EAST, sym))
                self.stays(empty, giving(SOUTH + NORTH - second, sym))

    def test_both_at_once(self):
        around = cell_around(west=("wire", EAST, 1), south=("wire", NORTH, 2))
        self.becomes(("cross", EAST, 0, 0, 0), around, ("cross", EAST, 0, 1, 2))
        self.becomes(("cross", EAST, 0, 5, 0), around, ("cross", EAST, 0, 5, 2))
        self.becomes(("cross", EAST, 0, 0, 5), around, ("cross", EAST, 0, 1, 5))

    def test_gives_sym_to_the_front_and_sym2_to_its_side(self):
        front = {"east": ("wire", EAST, 0)}
        for side, beside in ((0, {"north": ("wire", NORTH, 0)}), (1, {"south": ("wire", SOUTH, 0)})):
            self.becomes(("cross", EAST, side, 1, 2), cell_around(**front), ("cross", EAST, side, 0, 2))
            self.becomes(("cross", EAST, side, 1, 2), cell_around(**beside), ("cross", EAST, side, 1, 0))
            self.becomes(("cross", EAST, side, 1, 2), cell_around(**front, **beside), ("cross", EAST, side, 0, 0))
            self.stays(("cross", EAST, side, 1, 0), cell_around(**beside))
            self.stays(("cross", EAST, side, 0, 2), cell_around(**front))

    def test_one_place_gives_while_the_other_takes(self):
        around = cell_around(east=("wire", EAST, 0), south=("wire", NORTH, 2))
        self.becomes(("cross", EAST, 0, 1, 0), around, ("cross", EAST, 0, 0, 2))

    def test_what_its_neighbours_take(self):
        wire = ("wire", EAST, 0)
        self.becomes(wire, cell_around(west=("cross", EAST, 0, 1, 2)), ("wire", EAST, 1))
        self.becomes(wire, cell_around(west=("cross", SOUTH, 0, 1, 2)), ("wire", EAST, 2))
        self.becomes(wire, cell_around(west=("cross", NORTH, 1, 1, 2)), ("wire", EAST, 2))
        self.stays(wire, cell_around(west=("cross", NORTH, 0, 1, 2)))
        self.stays(wire, cell_around(west=("cross", WEST, 0, 1, 2)))


class GateTest(RuleCase):
    def test_values_from_back_and_side(self):
        for kind in ("and", "or"):
            for side, beside in ((0, NORTH), (1, SOUTH)):
                empty = (kind, EAST, side, 0, 0)
                for sym in SYMBOLS:
                    value = 1 if sym == ZERO else 2
                    self.becomes(empty, giving(WEST, sym), (kind, EAST, side, value, 0))
                    self.becomes(empty, giving(beside, sym), (kind, EAST, side, 0, value))
                    self.stays(empty, giving(EAST, sym))
                    self.stays(empty, giving(SOUTH + NORTH - beside, sym))
                    self.stays((kind, EAST, side, 1, 0), giving(WEST, sym))
                    self.stays((kind, EAST, side, 0, 1), giving(beside, sym))

    def test_both_values_at_once(self):
        around = cell_around(west=("wire", EAST, ZERO), north=("wire", SOUTH, LEFT))
        for kind in ("and", "or"):
            self.becomes((kind, EAST, 0, 0, 0), around, (kind, EAST, 0, 1, 2))
            self.becomes((kind, EAST, 0, 2, 0), around, (kind, EAST, 0, 2, 2))
            self.becomes((kind, EAST, 0, 0, 1), around, (kind, EAST, 0, 1, 1))

    def test_results(self):
        for one in (1, 2):
            for two in (1, 2):
                for kind, result in (("and", one == 2 and two == 2), ("or", one == 2 or two == 2)):
                    around = cell_around(west=(kind, EAST, 0, one, two))
                    self.becomes(("wire", EAST, 0), around, ("wire", EAST, ONE if result else ZERO))

    def test_no_result_while_a_value_is_missing(self):
        for kind in ("and", "or"):
            for one, two in ((0, 0), (1, 0), (2, 0), (0, 1), (0, 2)):
                self.stays(("wire", EAST, 0), cell_around(west=(kind, EAST, 0, one, two)))
                self.stays((kind, EAST, 0, one, two), front_ready())

    def test_both_values_are_gone_with_the_result(self):
        for kind in ("and", "or"):
            for one, two in ((1, 1), (1, 2), (2, 1), (2, 2)):
                self.becomes((kind, EAST, 1, one, two), front_ready(), (kind, EAST, 1, 0, 0))
                self.stays((kind, EAST, 1, one, two), cell_around())
                self.stays((kind, EAST, 1, one, two), cell_around(south=("wire", SOUTH, 0)))


class JoinTest(RuleCase):
    def test_takes_from_its_side_and_then_from_its_back(self):
        for side, beside in ((0, NORTH), (1, SOUTH)):
            for sym in SYMBOLS:
                phase = 1 if sym == END else 0
                self.becomes(("join", EAST, side, 0, 0), giving(beside, sym), ("join", EAST, side, phase, sym))
                self.becomes(("join", EAST, side, 1, 0), giving(WEST, sym), ("join", EAST, side, 1, sym))
                for way in range(4):
                    if way != beside:
                        self.stays(("join", EAST, side, 0, 0), giving(way, sym))
                    if way != WEST:
                        self.stays(("join", EAST, side, 1, 0), giving(way, sym))

    def test_gives_to_the_front(self):
        for phase in (0, 1):
            self.becomes(("join", EAST, 0, phase, 5), front_ready(), ("join", EAST, 0, phase, 0))
            self.becomes(("join", EAST, 0, phase, END), front_ready(), ("join", EAST, 0, phase, 0))
            self.stays(("join", EAST, 0, phase, 5), giving(NORTH, 9))
            self.stays(("join", EAST, 0, phase, 5), giving(WEST, 9))
            self.becomes(("wire", EAST, 0), cell_around(west=("join", EAST, 0, phase, 5)), ("wire", EAST, 5))
            self.stays(("wire", EAST, 0), cell_around(west=("join", NORTH, 1, phase, 5)))


class OffersToNetsTest(RuleCase):
    """1.7: what a wire takes from each kind of neighbour at its back."""

    def test_port_and_reader(self):
        wire = ("wire", EAST, 0)
        self.becomes(wire, cell_around(west=("port", EAST, 1, 5)), ("wire", EAST, 5))
        self.stays(wire, cell_around(west=("port", EAST, 1, 0)))
        self.stays(wire, cell_around(west=("port", NORTH, 1, 5)))
        for sent, sym in ((0, 5), (1, 0), (2, 5)):
            self.becomes(wire, cell_around(west=("reader", EAST, 0, 2, 0, sent, 5)), ("wire", EAST, sym))
        self.stays(wire, cell_around(west=("reader", EAST, 0, 4, 0, 2, START)))
        self.stays(wire, cell_around(west=("reader", SOUTH, 0, 2, 2, 0, 5)))

    def test_cells_that_are_no_net_cells_offer_nothing(self):
        for other in (
            ("arm", EAST, 0, 0, 5), ("arm", EAST, 1, 0, 5), ("head", EAST, 2, STOP - 2, 5), ("stretch", EAST, 5),
            ("retreat", EAST, 30, 5), ("regrow", EAST), ("fade",), None,
        ):
            self.stays(("wire", EAST, 0), cell_around(west=other))
            self.stays(("not", EAST, 0), cell_around(west=other))
            self.stays(("and", EAST, 0, 0, 0), cell_around(west=other, north=other))


if __name__ == "__main__":
    unittest.main()
