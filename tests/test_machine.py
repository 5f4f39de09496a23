"""3.1 to 3.3, 3.9, and what 3.10 says of the machine."""

import itertools
import random
import unittest

from ramet.errors import BadMachine, BadWord
from ramet.machine import Machine, equal_answers

ODD = [(0, (0,)), (1, (1,)), (1, (1,)), (0, (0,))]


def words_of(bits):
    return list(itertools.product((0, 1), repeat=bits))


def random_rows(rng, states, inputs, outputs):
    return [
        (rng.randrange(states), tuple(rng.randint(0, 1) for _ in range(outputs)))
        for _ in range(states * 2 ** inputs)
    ]


def random_machine(rng, inputs=None, outputs=None):
    states = rng.randint(1, 8)
    inputs = rng.randint(0, 3) if inputs is None else inputs
    outputs = rng.randint(1, 3) if outputs is None else outputs
    return Machine(states, inputs, outputs, random_rows(rng, states, inputs, outputs))


def random_words(rng, bits, many):
    return [tuple(rng.randint(0, 1) for _ in range(bits)) for _ in range(many)]


class MachineTest(unittest.TestCase):
    def test_attributes_and_table(self):
        rng = random.Random(51)
        for states in range(1, 9):
            for inputs in range(4):
                for outputs in range(1, 4):
                    rows = random_rows(rng, states, inputs, outputs)
                    machine = Machine(states, inputs, outputs, rows)
                    self.assertEqual((machine.states, machine.inputs, machine.outputs), (states, inputs, outputs))
                    self.assertEqual(machine.table(), rows)
                    self.assertIsInstance(machine.table(), list)

    def test_rows_are_those_of_the_table_in_order(self):
        rng = random.Random(52)
        for _ in range(40):
            machine = random_machine(rng)
            rows = machine.table()
            k = 0
            for state in range(machine.states):
                for word in words_of(machine.inputs):
                    self.assertEqual(machine.row(state, word), rows[k])
                    self.assertIsInstance(machine.row(state, word), tuple)
                    k += 1

    def test_first_bit_counts_most(self):
        rows = [(k, (0,)) for k in range(8)] * 8
        machine = Machine(8, 3, 1, rows)
        self.assertEqual(machine.row(0, (1, 0, 0))[0], 4)
        self.assertEqual(machine.row(0, (0, 1, 0))[0], 2)
        self.assertEqual(machine.row(0, (0, 0, 1))[0], 1)
        self.assertEqual(machine.row(5, (1, 1, 0))[0], 6)

    def test_run_and_trace(self):
        rng = random.Random(53)
        for _ in range(40):
            machine = random_machine(rng)
            words = random_words(rng, machine.inputs, rng.randint(0, 30))
            before = list(words)
            state, answers, states = 0, [], [0]
            for word in words:
                state, answer = machine.row(state, word)
                answers.append(answer)
                states.append(state)
            self.assertEqual(machine.run(words), answers)
            self.assertEqual(machine.trace(words), states)
            self.assertEqual(machine.run(words), answers)
            self.assertEqual(words, before)

    def test_example(self):
        machine = Machine(2, 1, 1, ODD)
        self.assertEqual(machine.run([(1,), (0,), (1,)]), [(1,), (1,), (0,)])
        self.assertEqual(machine.trace([(1,), (0,), (1,)]), [0, 1, 1, 0])
        self.assertEqual(machine.run([]), [])
        self.assertEqual(machine.trace([]), [0])

    def test_without_inputs(self):
        machine = Machine(3, 0, 2, [(1, (0, 0)), (2, (0, 1)), (0, (1, 0))])
        self.assertEqual(machine.run([()] * 4), [(0, 0), (0, 1), (1, 0), (0, 0)])
        self.assertEqual(machine.trace([()] * 4), [0, 1, 2, 0, 1])

    def test_rows_may_be_changed_without_effect(self):
        rows = list(ODD)
        machine = Machine(2, 1, 1, rows)
        rows[0] = (1, (1,))
        rows.append((0, (0,)))
        self.assertEqual(machine.table(), ODD)
        table = machine.table()
        table[1] = (0, (0,))
        table.pop()
        self.assertEqual(machine.table(), ODD)
        self.assertEqual(machine.run([(1,), (0,), (1,)]), [(1,), (1,), (0,)])

    def test_rows_handed_in_stay(self):
        rows = list(ODD)
        Machine(2, 1, 1, rows).run([(1,)])
        self.assertEqual(rows, ODD)


class BadMachineTest(unittest.TestCase):
    def refuses(self, states, inputs, outputs, rows):
        with self.assertRaises(BadMachine, msg=(states, inputs, outputs, rows)):
            Machine(states, inputs, outputs, rows)

    def test_numbers_out_of_range(self):
        for states in (0, -1, 9, 16):
            self.refuses(states, 1, 1, [(0, (0,))] * max(0, states * 2))
        for inputs in (-1, 4, 5):
            self.refuses(2, inputs, 1, [(0, (0,))] * (2 * 2 ** max(0, inputs)))
        for outputs in (-1, 0, 4):
            self.refuses(2, 1, outputs, [(0, (0,) * max(0, outputs))] * 4)

    def test_true_is_no_number(self):
        self.refuses(True, 1, 1, [(0, (0,))] * 2)
        self.refuses(2, True, 1, [(0, (0,))] * 4)
        self.refuses(2, False, 1, [(0, (0,))] * 2)
        self.refuses(2, 1, True, [(0, (0,))] * 4)

    def test_length_of_the_list(self):
        for states in (1, 2, 5, 8):
            for inputs in range(4):
                right = states * 2 ** inputs
                for length in (0, right - 1, right + 1, 2 * right):
                    self.refuses(states, inputs, 1, [(0, (0,))] * length)
                Machine(states, inputs, 1, [(0, (0,))] * right)

    def test_each_way_in_which_a_row_can_be_wrong(self):
        good = (1, (0, 1))
        wrongs = (
            None, 0, "ab", (), (1,), (1, (0, 1), 0), [1, (0, 1)], (2, (0, 1)), (-1, (0, 1)), (True, (0, 1)),
            (False, (0, 1)), ("1", (0, 1)), (None, (0, 1)), ((1,), (0, 1)), (1, [0, 1]), (1, (0,)), (1, ()),
            (1, (0, 1, 0)), (1, (0, 2)), (1, (-1, 0)), (1, (0, True)), (1, (False, 0)), (1, ("0", "1")),
            (1, "01"), (1, None), (1, 1), (1, (None, 0)), ((0, 1), 1),
        )
        for wrong in wrongs:
            for at in range(4):
                rows = [good] * 4
                rows[at] = wrong
                self.refuses(2, 1, 2, rows)
        Machine(2, 1, 2, [good] * 4)


class BadWordTest(unittest.TestCase):
    WRONGS = (
        (), (0,), (0, 0, 0), [0, 1], "01", None, 0, (0, 2), (-1, 0), (0, True), (False, 1), ("0", "1"), (0, None),
        ((0,), 1), b"01",
    )

    def setUp(self):
        self.machine = Machine(2, 2, 1, [(k % 2, (k // 4,)) for k in range(8)])

    def test_wrong_words(self):
        for word in self.WRONGS:
            with self.assertRaises(BadWord, msg=word):
                self.machine.row(0, word)
            for words in ([word], [(0, 1), word], [word, (0, 1)], [(1, 1), (0, 0), word, (0, 1)]):
                with self.assertRaises(BadWord, msg=word):
                    self.machine.run(words)
                with self.assertRaises(BadWord, msg=word):
                    self.machine.trace(words)

    def test_machine_without_inputs(self):
        machine = Machine(1, 0, 1, [(0, (1,))])
        self.assertEqual(machine.row(0, ()), (0, (1,)))
        for word in ((0,), [], None, 0, ""):
            with self.assertRaises(BadWord):
                machine.row(0, word)

    def test_states_out_of_range(self):
        for state in (-1, 2, 8, True, False, "0", None, (0,)):
            with self.assertRaises(BadMachine, msg=state):
                self.machine.row(state, (0, 1))

    def test_the_state_is_checked_first(self):
        for state in (-1, 2, True):
            for word in self.WRONGS:
                with self.assertRaises(BadMachine):
                    self.machine.row(state, word)


def renumbered(machine, order):
    """The same machine with its states numbered anew; order[0] is 0."""
    rows = machine.table()
    many = 2 ** machine.inputs
    result = [None] * len(rows)
    for state in range(machine.states):
        for k in range(many):
            after, answer = rows[state * many + k]
            result[order[state] * many + k] = (order[after], answer)
    return Machine(machine.states, machine.inputs, machine.outputs, result)


def shortest_difference(first, second, most):
    """Try all lists of words in the order of their lengths and, with one length, of the lists."""
    for length in range(1, most + 1):
        for words in itertools.product(words_of(first.inputs), repeat=length):
            if first.run(list(words))[-1] != second.run(list(words))[-1]:
                return list(words)
    return None


class EqualAnswersTest(unittest.TestCase):
    def test_machines_that_answer_alike(self):
        rng = random.Random(54)
        for _ in range(30):
            machine = random_machine(rng)
            order = [0] + rng.sample(range(1, machine.states), machine.states - 1)
            self.assertIsNone(equal_answers(machine, renumbered(machine, order)))
            self.assertIsNone(equal_answers(machine, machine))

    def test_another_number_of_states(self):
        doubled = Machine(4, 1, 1, [(2, (0,)), (1, (1,)), (3, (1,)), (0, (0,)), (0, (0,)), (3, (1,)), (1, (1,)), (2, (0,))])
        self.assertIsNone(equal_answers(Machine(2, 1, 1, ODD), doubled))
        self.assertIsNone(equal_answers(doubled, Machine(2, 1, 1, ODD)))
        unreached = Machine(3, 1, 1, ODD + [(2, (1,)), (0, (0,))])
        self.assertIsNone(equal_answers(Machine(2, 1, 1, ODD), unreached))

    def test_a_shortest_list_and_the_least_one(self):
        rng = random.Random(55)
        lengths = set()
        for k in range(150):
            inputs, outputs = rng.choice([(0, 1), (1, 1), (1, 2), (2, 1)])
            first = random_machine(rng, inputs, outputs)
            if k % 2:
                second = random_machine(rng, inputs, outputs)
            else:
                rows = first.table()
                at = rng.randrange(len(rows))
                rows[at] = (rng.randrange(first.states), rows[at][1])
                second = Machine(first.states, inputs, outputs, rows)
            got = equal_answers(first, second)
            expected = shortest_difference(first, second, 12 if inputs == 0 else 9 - 3 * (inputs - 1))
            if expected is not None or got is None:
                self.assertEqual(got, expected)
            else:
                self.assertNotEqual(first.run(got)[-1], second.run(got)[-1])
                self.assertEqual(first.run(got[:-1]), second.run(got[:-1]))
            if got is not None:
                lengths.add(len(got))
                self.assertIsInstance(got, list)
        self.assertTrue({1, 2, 3} <= lengths)

    def test_by_hand(self):
        count = Machine(4, 1, 1, [(0, (0,)), (1, (0,)), (1, (0,)), (2, (0,)), (2, (0,)), (3, (0,)), (3, (0,)), (0, (0,))])
        rows = count.table()
        rows[6] = (3, (1,))
        marks_zero = Machine(4, 1, 1, rows)
        self.assertEqual(equal_answers(count, marks_zero), [(1,), (1,), (1,), (0,)])
        self.assertEqual(equal_answers(Machine(1, 2, 1, [(0, (0,))] * 4), Machine(1, 2, 1, [(0, (1,))] * 4)), [(0, 0)])
        rows = [(0, (0,)), (0, (1,)), (0, (1,)), (0, (0,))]
        self.assertEqual(equal_answers(Machine(1, 2, 1, [(0, (0,))] * 4), Machine(1, 2, 1, rows)), [(0, 1)])

    def test_without_inputs(self):
        first = Machine(3, 0, 1, [(1, (0,)), (2, (0,)), (0, (0,))])
        second = Machine(2, 0, 1, [(1, (0,)), (0, (0,))])
        self.assertIsNone(equal_answers(first, second))
        third = Machine(2, 0, 1, [(1, (0,)), (0, (1,))])
        self.assertEqual(equal_answers(first, third), [(), ()])

    def test_other_numbers_of_bits(self):
        machines = [Machine(1, inputs, outputs, [(0, (0,) * outputs)] * 2 ** inputs) for inputs in range(4) for outputs in (1, 2, 3)]
        for first in machines:
            for second in machines:
                if (first.inputs, first.outputs) == (second.inputs, second.outputs):
                    self.assertIsNone(equal_answers(first, second))
                else:
                    with self.assertRaises(BadMachine):
                        equal_answers(first, second)


if __name__ == "__main__":
    unittest.main()
