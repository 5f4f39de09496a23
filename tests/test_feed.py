"""4.15 to 4.18: how a layout is fed, when it is still, and what it answers."""

import random
import unittest

from ramet.engine import Engine
from ramet.errors import BadWord, NotThere, TooMany
from ramet.feed import drain, due, feed
from ramet.layout import lay_out
from ramet.machine import Machine
from ramet.net import last_step, nodes
from ramet.space import run

from tests.circuits import with_room
from tests.test_machine import ODD, random_machine, random_rows, random_words

SHAPES = ((1, 0, 1), (1, 0, 3), (1, 1, 1), (1, 3, 2), (2, 0, 1), (2, 1, 1), (3, 0, 2), (3, 2, 2), (5, 1, 3), (8, 0, 1), (8, 3, 3))


def machine_of_shape(rng, states, inputs, outputs):
    return Machine(states, inputs, outputs, random_rows(rng, states, inputs, outputs))


class FeedTest(unittest.TestCase):
    def fed(self, layout, words):
        """What 4.15 says, cell by cell."""
        result = dict(layout.pattern)
        for i, (x, y) in enumerate(layout.ins):
            for k, word in enumerate(words, 1):
                result[x, y - k] = ("wire", 3, 8 if word[i] == 0 else 9)
        for x, y in layout.outs:
            for k in range(1, len(words) + 2):
                result[x, y + k] = ("wire", 3, 0)
        return result

    def test_cell_by_cell(self):
        rng = random.Random(91)
        for shape in SHAPES:
            layout = lay_out(machine_of_shape(rng, *shape))
            for many in (0, 1, 2, 5, 39, 40):
                words = random_words(rng, shape[1], many)
                before, given = dict(layout.pattern), list(words)
                got = feed(layout, words)
                self.assertEqual(got, self.fed(layout, words))
                self.assertEqual(layout.pattern, before)
                self.assertEqual(words, given)
                got[0, 0] = ("fade",)
                self.assertEqual(layout.pattern, before)

    def test_by_hand(self):
        layout = lay_out(Machine(2, 1, 1, ODD))
        added = {place: state for place, state in feed(layout, [(1,), (0,)]).items() if place not in layout.pattern}
        self.assertEqual(added, {
            (0, -4): ("wire", 3, 9), (0, -5): ("wire", 3, 8),
            (7, 7): ("wire", 3, 0), (7, 8): ("wire", 3, 0), (7, 9): ("wire", 3, 0),
        })
        added = {place: state for place, state in feed(layout, []).items() if place not in layout.pattern}
        self.assertEqual(added, {(7, 7): ("wire", 3, 0)})

    def test_without_in_places(self):
        layout = lay_out(Machine(1, 0, 2, [(0, (1, 0))]))
        self.assertEqual(layout.ins, ())
        for many in (0, 1, 3, 40):
            added = [place for place in feed(layout, [()] * many) if place not in layout.pattern]
            expected = [(x, y + k) for x, y in layout.outs for k in range(1, many + 2)]
            self.assertEqual(sorted(added), sorted(expected))

    def test_too_many_words(self):
        layout = lay_out(Machine(2, 1, 1, ODD))
        feed(layout, [(0,)] * 40)
        for asked in (feed, due):
            for many in (41, 42, 100):
                with self.assertRaises(TooMany):
                    asked(layout, [(0,)] * many)
                with self.assertRaises(TooMany):
                    asked(lay_out(Machine(1, 0, 1, [(0, (1,))])), [()] * many)

    def test_bad_words(self):
        wrongs = ((), (0,), (0, 0, 0), (0, 2), (-1, 0), (0, True), (False, 0), (0, None), ("0", "1"), [0, 1], "01", None, 0, 5)
        layout = lay_out(Machine(1, 2, 1, [(0, (1,))] * 4))
        for wrong in wrongs:
            for words in ([wrong], [(0, 1), wrong], [wrong, (1, 1)], [(0, 0)] * 39 + [wrong]):
                for asked in (feed, due):
                    with self.assertRaises(BadWord, msg=wrong):
                        asked(layout, words)
        for wrong in ((0,), (1,), [], None, 0):
            for asked in (feed, due):
                with self.assertRaises(BadWord):
                    asked(lay_out(Machine(1, 0, 1, [(0, (1,))])), [(), wrong])

    def test_too_many_comes_first(self):
        layout = lay_out(Machine(2, 1, 1, ODD))
        for asked in (feed, due):
            for words in ([(2,)] + [(0,)] * 40, [(0,)] * 40 + [None], [()] * 41):
                with self.assertRaises(TooMany):
                    asked(layout, words)


class DueTest(unittest.TestCase):
    def test_is_the_last_step_of_what_is_fed(self):
        rng = random.Random(92)
        for shape in SHAPES:
            layout = lay_out(machine_of_shape(rng, *shape))
            for many in (0, 1, 7, 40):
                words = random_words(rng, shape[1], many)
                got = due(layout, words)
                self.assertEqual(got, last_step(feed(layout, words)))
                self.assertTrue(got >= 0)

    def test_by_a_run(self):
        layout = lay_out(Machine(2, 1, 1, ODD))
        for words in ([], [(1,)], [(1,), (0,), (1,)]):
            steps = due(layout, words)
            fed = feed(layout, words)
            self.assertEqual(run(fed, steps), run(fed, steps + 1))
            self.assertNotEqual(run(fed, steps - 1), run(fed, steps))

    def test_is_never_minus_1_without_inputs(self):
        for states in range(1, 9):
            rows = [((k + 1) % states, (1, 1, 1)) for k in range(states)]
            for many in (0, 1, 40):
                self.assertTrue(due(lay_out(Machine(states, 0, 3, rows)), [()] * many) > 0)


class DrainTest(unittest.TestCase):
    def setUp(self):
        self.layout = lay_out(Machine(1, 1, 2, [(0, (0, 1)), (0, (1, 0))]))

    def shown(self, words, room):
        """A pattern with output words where they stand when that many were asked for."""
        pattern = dict(self.layout.pattern)
        for k, word in enumerate(words, 1):
            for (x, y), bit in zip(self.layout.outs, word):
                pattern[x, y + room + 2 - k] = ("wire", 3, 8 + bit)
        return pattern

    def test_bits_at_the_told_places(self):
        rng = random.Random(93)
        for n in (0, 1, 2, 3, 39, 40):
            words = random_words(rng, 2, n)
            pattern = self.shown(words, n)
            before = dict(pattern)
            got = drain(self.layout, pattern, n)
            self.assertEqual(got, words)
            self.assertIsInstance(got, list)
            self.assertEqual([type(word) for word in got], [tuple] * n)
            self.assertEqual(pattern, before)

    def test_the_argument_tells_where_the_words_stand(self):
        words = [(0, 1), (1, 1), (1, 0)]
        pattern = self.shown(words, 3)
        # With a smaller number, the first word is looked for nearer to the layout.
        self.assertEqual(drain(self.layout, pattern, 2), [(1, 1), (1, 0)])
        self.assertEqual(drain(self.layout, pattern, 1), [(1, 0)])
        self.assertEqual(drain(self.layout, pattern, 0), [])
        with self.assertRaises(NotThere):
            drain(self.layout, pattern, 4)

    def test_nothing_else_is_looked_at(self):
        words = [(0, 1), (1, 1)]
        pattern = {place: state for place, state in self.shown(words, 2).items() if place not in self.layout.pattern}
        self.assertEqual(drain(self.layout, pattern, 2), words)
        self.assertEqual(drain(self.layout, {}, 0), [])

    def test_not_there(self):
        words = [(0, 1), (1, 1), (0, 0)]
        right = self.shown(words, 3)
        wrongs = (
            None, ("not", 3, 8), ("wire", 0, 8), ("wire", 1, 9), ("wire", 2, 8), ("wire", 3, 0), ("wire", 3, 7), ("wire", 3, 10),
            ("wire", 3, 96), ("wire", 3, 1), ("fork", 3, 0, 8, 0), ("cross", 3, 0, 8, 9), ("or", 3, 0, 1, 1), ("join", 3, 0, 0, 8),
            ("reader", 3, 0, 0, 0, 0, 8), ("port", 3, 1, 8), ("arm", 3, 0, 0, 8), ("head", 3, 1, 0, 0), ("fade",),
        )
        for x, y in self.layout.outs:
            for k in (2, 3, 4):
                for wrong in wrongs:
                    pattern = dict(right)
                    del pattern[x, y + k]
                    if wrong is not None:
                        pattern[x, y + k] = wrong
                    with self.assertRaises(NotThere, msg=wrong):
                        drain(self.layout, pattern, 3)
        self.assertEqual(drain(self.layout, right, 3), words)

    def test_before_the_run(self):
        with self.assertRaises(NotThere):
            drain(self.layout, feed(self.layout, [(0,)]), 1)


class AnswersTest(unittest.TestCase):
    """4.18: the net answers as the machine does."""

    def answers(self, machine, words):
        layout = lay_out(machine)
        steps = due(layout, words)
        engine = Engine(feed(layout, words))
        engine.advance(max(steps - 1, 0))
        if steps > 0:
            self.assertFalse(engine.is_idle())
            engine.advance(1)
        self.assertTrue(engine.is_idle())
        after = engine.pattern()
        self.assertEqual(drain(layout, after, len(words)), machine.run(words))
        engine.advance(1000)
        self.assertEqual(engine.pattern(), after)

    def test_shapes(self):
        rng = random.Random(94)
        for shape in SHAPES:
            for many in (0, 1, 2, 7):
                machine = machine_of_shape(rng, *shape)
                self.answers(machine, random_words(rng, shape[1], many))

    def test_random_machines(self):
        rng = random.Random(95)
        for _ in range(25):
            machine = random_machine(rng)
            self.answers(machine, random_words(rng, machine.inputs, rng.randint(1, 12)))

    def test_40_words(self):
        rng = random.Random(96)
        for shape in ((1, 1, 1), (2, 1, 1), (4, 0, 2), (8, 2, 1)):
            machine = machine_of_shape(rng, *shape)
            self.answers(machine, random_words(rng, shape[1], 40))

    def test_longer_wires(self):
        rng = random.Random(97)
        for shape in SHAPES[:9]:
            machine = machine_of_shape(rng, *shape)
            words = random_words(rng, shape[1], 6)
            layout = lay_out(machine)
            net = feed(layout, words)
            steps = {due(layout, words)}
            for _ in range(4):
                net, new = self.longer(rng, net)
                layout.outs = tuple(new[place] for place in layout.outs)
                steps.add(last_step(net))
                engine = Engine(net)
                self.assertEqual(engine.settle(20000), last_step(net))
                self.assertEqual(drain(layout, engine.pattern(), 6), machine.run(words))
            self.assertTrue(len(steps) > 1)

    def longer(self, rng, net):
        """Make a column or a row of the wires longer, somewhere in the layout itself."""
        upright = rng.random() < 0.5
        ends = [node[0][1 if upright else 0] for node in nodes(net)]
        last = 1 if upright else max(ends) - 1
        return with_room(net, rng.randint(-1, last), upright)


if __name__ == "__main__":
    unittest.main()
