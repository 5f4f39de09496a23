"""1.3, 1.4, 1.21 and `turned` of 1.23: symbols and states."""

import itertools
import unittest

from ramet import kinds
from ramet.errors import NotWritten
from ramet.kinds import is_state, turned, written_number, written_state

from tests.helpers import ITEMS, fits, turn_state
from tests.model import written_table


class SymbolTest(unittest.TestCase):
    def test_names(self):
        expected = {
            "LEFT": 1, "RIGHT": 2, "FORTH": 3, "PORT": 4, "STOP": 5, "START": 6, "END": 7,
            "DIGIT": 8, "WRITE": 24, "ZERO": 8, "ONE": 9,
        }
        for name, number in expected.items():
            self.assertEqual(getattr(kinds, name), number, name)
            self.assertIs(type(getattr(kinds, name)), int, name)


def corners(kind):
    """The states of a kind with each item at its least, its second, its last but one or its greatest."""
    choices = [sorted({least, min(least + 1, most), max(most - 1, least), most}) for least, most in ITEMS[kind]]
    if kind == "reader":
        choices[5] = [0, 1, 5, 6, 7, 96]
        choices[2] = list(range(7))
    if kind == "head":
        choices[2] = [0, 1, 2, 3, 4, 23, 24, 96]
    return [(kind,) + items for items in itertools.product(*choices)]


class IsStateTest(unittest.TestCase):
    def refuses(self, value):
        self.assertIs(is_state(value), False, value)

    def test_ground_and_fade(self):
        self.assertIs(is_state(None), True)
        self.assertIs(is_state(("fade",)), True)
        self.refuses(("fade", 0))

    def test_both_ends_of_every_item(self):
        for kind in ITEMS:
            for state in corners(kind):
                self.assertIs(is_state(state), fits(state), state)

    def test_some_of_each_kind(self):
        for state in (
            ("wire", 0, 0), ("not", 3, 96), ("fork", 2, 1, 5, 2), ("cross", 1, 0, 96, 0),
            ("and", 0, 1, 2, 2), ("or", 3, 0, 0, 1), ("join", 2, 1, 1, 7), ("reader", 0, 1, 4, 2, 2, 6),
            ("reader", 1, 0, 6, 1, 1, 96), ("arm", 0, 1, 2, 96), ("head", 0, 0, 0, 255),
            ("head", 0, 1, 0, 0), ("head", 3, 2, 3, 1), ("head", 3, 2, 24, 255), ("stretch", 0, 1),
            ("stretch", 3, 255), ("retreat", 1, 24, 1), ("retreat", 1, 96, 255), ("port", 0, 0, 0),
            ("port", 3, 1, 0), ("port", 3, 1, 96), ("regrow", 0), ("regrow", 3),
        ):
            self.assertIs(is_state(state), True, state)

    def good_states(self):
        for kind in ITEMS:
            good = [state for state in corners(kind) if fits(state)]
            yield from good[:: max(1, len(good) // 12)]

    def test_an_item_out_of_its_bounds(self):
        for state in self.good_states():
            for k, (least, most) in enumerate(ITEMS[state[0]]):
                for wrong in (least - 1, -1, most + 1, most + 4, 1000):
                    self.refuses(state[: k + 1] + (wrong,) + state[k + 2:])

    def test_an_item_that_is_no_integer(self):
        for state in self.good_states():
            for k in range(1, len(state)):
                wrongs = [str(state[k]), None, (state[k],), float(state[k]), [state[k]], b"a"]
                if state[k] < 2:
                    wrongs.append(bool(state[k]))
                for wrong in wrongs:
                    self.refuses(state[:k] + (wrong,) + state[k + 1:])

    def test_true_where_one_would_do(self):
        for state in (
            ("wire", True, 0), ("wire", 0, True), ("fork", 0, True, 1, 0), ("and", 0, 0, 1, True),
            ("join", 0, 0, True, 0), ("head", 0, True, 0, 0), ("stretch", 0, True), ("regrow", False),
        ):
            self.refuses(state)

    def test_an_item_more_or_less(self):
        for state in self.good_states():
            self.refuses(state + (0,))
            self.refuses(state + (None,))
            self.refuses(state[:-1])
            self.refuses(state[:1] + state[2:] if len(state) > 1 else ())

    def test_a_list_or_the_kind_alone(self):
        for state in self.good_states():
            self.refuses(list(state))
            self.refuses(state[0])
            self.refuses((list(state),))

    def test_another_kind(self):
        for state in self.good_states():
            for name in ("", "Wire", "wires", "ground", "hand", None, 0, True, ["wire"], ("wire",)):
                self.refuses((name,) + state[1:])

    def test_values_that_are_no_states_at_all(self):
        for value in (0, 1, True, False, "", "fade", "wire", (), [], {}, {"wire": 0}, 2.5, (None,), ((),), b"wire"):
            self.refuses(value)

    def test_sent_without_a_symbol(self):
        for sent in (1, 2):
            self.refuses(("fork", 0, 0, 0, sent))
            self.refuses(("reader", 0, 0, 2, 1, sent, 0))
            self.assertTrue(is_state(("fork", 0, 0, 1, sent)))
            self.assertTrue(is_state(("reader", 0, 0, 2, 1, sent, 1)))

    def test_parked_reader(self):
        self.assertTrue(is_state(("reader", 2, 1, 4, 0, 2, 6)))
        for sent, sym in ((0, 6), (1, 6), (2, 5), (2, 7), (2, 0), (0, 0)):
            self.refuses(("reader", 2, 1, 4, 0, sent, sym))

    def test_head_in_each_phase(self):
        for phase in (0, 1):
            for sym in (1, 3, 24, 96):
                self.refuses(("head", 0, phase, sym, 1))
            for count in (0, 1, 255):
                self.assertTrue(is_state(("head", 0, phase, 0, count)))
        for sym in range(97):
            works = sym == 3 or sym >= 24
            self.assertIs(is_state(("head", 0, 2, sym, 1)), works, sym)
            self.assertIs(is_state(("head", 0, 2, sym, 255)), works, sym)
            self.refuses(("head", 0, 2, sym, 0))

    def test_port_in_phase_0(self):
        for sym in (1, 7, 96):
            self.refuses(("port", 0, 0, sym))

    def test_stretch_and_retreat(self):
        self.refuses(("stretch", 0, 0))
        for sym in (0, 3, 23):
            self.refuses(("retreat", 0, sym, 1))
        self.refuses(("retreat", 0, 24, 0))


class WrittenTest(unittest.TestCase):
    def test_each_number(self):
        table = written_table()
        self.assertEqual(len(table), 73)
        for i, state in enumerate(table):
            self.assertEqual(written_state(i), state, i)
            self.assertEqual(written_number(state), i, state)
            self.assertTrue(is_state(written_state(i)))

    def test_some_numbers_by_hand(self):
        for i, state in (
            (0, None), (1, ("wire", 0, 0)), (4, ("wire", 3, 0)), (5, ("wire", 0, 8)), (12, ("wire", 3, 9)),
            (13, ("not", 0, 0)), (17, ("fork", 0, 0, 0, 0)), (24, ("fork", 3, 1, 0, 0)),
            (25, ("cross", 0, 0, 0, 0)), (33, ("and", 0, 0, 0, 0)), (41, ("or", 0, 0, 0, 0)),
            (48, ("or", 3, 1, 0, 0)), (49, ("join", 0, 0, 0, 0)), (53, ("join", 2, 0, 0, 0)),
            (57, ("reader", 0, 0, 0, 1, 0, 0)), (64, ("reader", 3, 1, 0, 1, 0, 0)), (65, ("arm", 0, 1, 0, 0)),
            (69, ("head", 0, 1, 0, 0)), (72, ("head", 3, 1, 0, 0)),
        ):
            self.assertEqual(written_state(i), state)
            self.assertEqual(written_number(state), i)

    def test_numbers_that_are_none(self):
        for i in (-1, 73, -73, 74, 1000, -1000):
            with self.assertRaises(NotWritten):
                written_state(i)

    def test_states_that_are_not_written(self):
        written = written_table()
        for kind in ITEMS:
            for state in corners(kind):
                if fits(state) and state not in written:
                    with self.assertRaises(NotWritten, msg=state):
                        written_number(state)
        for state in (("fade",), ("wire", 0, 7), ("wire", 0, 10), ("not", 0, 8), ("arm", 0, 0, 0, 0)):
            with self.assertRaises(NotWritten):
                written_number(state)


class TurnedTest(unittest.TestCase):
    def test_the_direction_turns(self):
        for kind in ITEMS:
            for state in corners(kind)[:40]:
                for quarters in range(4):
                    self.assertEqual(turned(state, quarters), turn_state(state, quarters))

    def test_examples(self):
        self.assertEqual(turned(("wire", 0, 5), 1), ("wire", 1, 5))
        self.assertEqual(turned(("fork", 3, 1, 5, 2), 1), ("fork", 0, 1, 5, 2))
        self.assertEqual(turned(("regrow", 2), 3), ("regrow", 1))
        self.assertEqual(turned(("wire", 2, 5), 0), ("wire", 2, 5))

    def test_ground_and_fade(self):
        for quarters in range(4):
            self.assertIsNone(turned(None, quarters))
            self.assertEqual(turned(("fade",), quarters), ("fade",))


if __name__ == "__main__":
    unittest.main()
