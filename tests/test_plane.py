"""3.6 to 3.8, and what 3.10 says of the plane."""

import random
import unittest

from ramet.machine import Machine
from ramet.plane import plane, run_plane, state_bits

from tests.test_machine import ODD, random_machine, random_rows, random_words, words_of


def binary(number, bits):
    return tuple(int(digit) for digit in format(number, f"0{bits}b")) if bits else ()


def zeros(states, inputs, outputs):
    return Machine(states, inputs, outputs, [(0, (0,) * outputs)] * (states << inputs))


class StateBitsTest(unittest.TestCase):
    def test_each_number_of_states(self):
        wanted = {1: 0, 2: 1, 3: 2, 4: 2, 5: 3, 6: 3, 7: 3, 8: 3}
        for states, bits in wanted.items():
            for inputs in range(4):
                self.assertEqual(state_bits(zeros(states, inputs, 1)), bits)
                self.assertEqual(state_bits(zeros(states, inputs, 3)), bits)


class PlaneTest(unittest.TestCase):
    def test_term_by_term(self):
        rng = random.Random(61)
        for states in range(1, 9):
            bits = len(bin(states - 1)) - 2 if states > 1 else 0
            for inputs in range(4):
                for outputs in range(1, 4):
                    machine = Machine(states, inputs, outputs, random_rows(rng, states, inputs, outputs))
                    expected = []
                    for state in range(states):
                        for word in words_of(inputs):
                            after, answer = machine.row(state, word)
                            if after != 0 or 1 in answer:
                                expected.append((word + binary(state, bits), binary(after, bits) + answer))
                    got = plane(machine)
                    self.assertEqual(got, expected)
                    self.assertIsInstance(got, list)
                    for term in got:
                        self.assertEqual([type(part) for part in (term,) + term], [tuple] * 3)

    def test_rows_whose_sums_are_all_0_are_left_out(self):
        for states in range(1, 9):
            for inputs in range(4):
                self.assertEqual(plane(zeros(states, inputs, 2)), [])
        machine = Machine(1, 0, 2, [(0, (0, 1))])
        self.assertEqual(plane(machine), [((), (0, 1))])
        machine = Machine(3, 0, 1, [(2, (0,)), (0, (0,)), (0, (1,))])
        self.assertEqual(plane(machine), [((0, 0), (1, 0, 0)), ((1, 0), (0, 0, 1))])

    def test_state_bits_have_the_highest_first_and_stand_behind_the_inputs(self):
        rows = [(k % 8, (0,)) for k in range(16)]
        got = plane(Machine(8, 1, 1, rows))
        self.assertEqual(got[0], ((1, 0, 0, 0), (0, 0, 1, 0)))
        self.assertEqual(got[5], ((0, 0, 1, 1), (1, 1, 0, 0)))
        self.assertEqual(got[-1], ((1, 1, 1, 1), (1, 1, 1, 0)))
        self.assertEqual(len(got), 14)

    def test_example(self):
        self.assertEqual(plane(Machine(2, 1, 1, ODD)), [((1, 0), (1, 1)), ((0, 1), (1, 1))])

    def test_the_machine_stays(self):
        machine = Machine(2, 1, 1, ODD)
        got = plane(machine)
        got.append(((0, 0), (0, 0)))
        self.assertEqual(plane(machine), got[:-1])
        self.assertEqual(machine.table(), ODD)


class RunPlaneTest(unittest.TestCase):
    def test_answers_are_those_of_the_machine(self):
        rng = random.Random(62)
        for states in range(1, 9):
            for inputs in range(4):
                for outputs in range(1, 4):
                    machine = Machine(states, inputs, outputs, random_rows(rng, states, inputs, outputs))
                    words = random_words(rng, inputs, rng.choice([0, 1, 20]))
                    before = list(words)
                    got = run_plane(plane(machine), state_bits(machine), outputs, words)
                    self.assertEqual(got, machine.run(words))
                    self.assertIsInstance(got, list)
                    self.assertEqual(words, before)

    def test_each_word_from_each_state(self):
        rng = random.Random(63)
        for _ in range(20):
            machine = random_machine(rng)
            words = [word for one in words_of(machine.inputs) for other in words_of(machine.inputs) for word in (one, other)]
            got = run_plane(plane(machine), state_bits(machine), machine.outputs, words)
            self.assertEqual(got, machine.run(words))

    def test_several_terms_with_the_same_literals(self):
        terms = [((1, 0), (1, 0, 0)), ((1, 0), (0, 0, 1)), ((1, 0), (1, 0, 1)), ((1, 1), (0, 1, 0)), ((0, 1), (0, 0, 0))]
        words = [(1,), (1,), (0,), (1,), (0,), (0,)]
        self.assertEqual(run_plane(terms, 1, 2, words), [(0, 1), (1, 0), (0, 0), (0, 1), (0, 0), (0, 0)])

    def test_no_terms(self):
        self.assertEqual(run_plane([], 2, 3, [(1,), (0,)]), [(0, 0, 0)] * 2)
        self.assertEqual(run_plane([], 0, 1, [()] * 3), [(0,)] * 3)
        self.assertEqual(run_plane([((), (1,))], 0, 1, [()] * 3), [(1,)] * 3)

    def test_no_words(self):
        self.assertEqual(run_plane([((1, 0), (1, 1))], 1, 1, []), [])

    def test_the_state_bits_are_kept_from_step_to_step(self):
        terms = [((0, 0), (0, 1, 0)), ((0, 1), (1, 0, 0)), ((1, 0), (1, 1, 1))]
        self.assertEqual(run_plane(terms, 2, 1, [()] * 6), [(0,), (0,), (1,), (0,), (0,), (0,)])

    def test_the_words_are_not_checked(self):
        terms = plane(Machine(2, 1, 1, ODD))
        self.assertEqual(run_plane(terms, 1, 1, [(1, 1), (), (2,), (1,)]), [(0,), (0,), (0,), (1,)])


if __name__ == "__main__":
    unittest.main()
