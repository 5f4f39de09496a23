"""5.3 and 5.4: tapes and their lines of words."""

import random
import unittest

from ramet import tape as tape_module
from ramet.errors import BadTape, RametError
from ramet.kinds import DIGIT, END, FORTH, LEFT, PORT, RIGHT, START, STOP, WRITE
from ramet.tape import MOST_SYMBOLS, REACH, copies, is_tape, read_tape, tape_line

COMMANDS = (LEFT, RIGHT, FORTH) + tuple(range(DIGIT, WRITE + 73))


def random_tape(rng, length):
    last = rng.choice([STOP, PORT])
    return (START,) + tuple(rng.choice(COMMANDS) for _ in range(length - 3)) + (last, END)


def word_of(sym):
    plain = {START: "start", STOP: "stop", PORT: "port", END: "end", FORTH: "forth", LEFT: "left", RIGHT: "right"}
    if sym in plain:
        return plain[sym]
    return "d" + str(sym - 8) if sym < 24 else "w" + str(sym - 24)


class IsTapeTest(unittest.TestCase):
    def test_numbers(self):
        self.assertEqual((MOST_SYMBOLS, REACH), (400, 200))
        self.assertEqual((tape_module.MOST_SYMBOLS, tape_module.REACH), (400, 200))

    def test_lengths(self):
        rng = random.Random(101)
        for length in (3, 4, 5, 100, 399, 400):
            for _ in range(5):
                self.assertIs(is_tape(random_tape(rng, length)), True)
        for length in (401, 402, 1000):
            self.assertIs(is_tape(random_tape(rng, length)), False)
        for short in ((), (START,), (START, END), (START, STOP), (STOP, END), (PORT, END)):
            self.assertIs(is_tape(short), False)

    def test_each_symbol_as_a_command(self):
        for sym in range(-3, 101):
            for last in (STOP, PORT):
                expected = sym in COMMANDS
                self.assertIs(is_tape((START, sym, last, END)), expected, sym)
                self.assertIs(is_tape((START, FORTH, sym, LEFT, last, END)), expected, sym)
                self.assertIs(is_tape((START,) + (FORTH,) * 396 + (sym, last, END)), expected, sym)

    def test_each_symbol_at_the_ends(self):
        for sym in range(-3, 101):
            self.assertIs(is_tape((sym, FORTH, STOP, END)), sym == START)
            self.assertIs(is_tape((START, FORTH, sym, END)), sym in (STOP, PORT))
            self.assertIs(is_tape((START, FORTH, PORT, sym)), sym == END)
            self.assertIs(is_tape((START, STOP, sym)), sym == END)
            self.assertIs(is_tape((START, sym, END)), sym in (STOP, PORT))

    def test_one_thing_wrong(self):
        good = (START, FORTH, LEFT, DIGIT + 2, WRITE, STOP, END)
        self.assertIs(is_tape(good), True)
        for wrong in (list(good), good[1:], good[:-1], good[:-2] + (END,), good + (END,), (START,) + good, good[:-2], good[:5]):
            self.assertIs(is_tape(wrong), False)
        for at in range(len(good)):
            for wrong in (0, 97, -1, 1000, True, False, None, "forth", (3,), [3], "3"):
                spoilt = good[:at] + (wrong,) + good[at + 1:]
                self.assertIs(is_tape(spoilt), False, spoilt)

    def test_other_kinds_of_values(self):
        for value in (None, 0, 6, True, "", "start stop end", b"\x06\x05\x07", [], [START, STOP, END], {}, {START: 1, STOP: 2, END: 3}, (None,) * 3, ((), (), ())):
            self.assertIs(is_tape(value), False)

    def test_copies(self):
        rng = random.Random(102)
        for length in (3, 4, 50, 399, 400):
            for _ in range(10):
                tape = random_tape(rng, length)
                self.assertIs(copies(tape), tape[-2] == PORT)
        self.assertIs(copies((START, STOP, END)), False)
        self.assertIs(copies((START, PORT, END)), True)


class LineTest(unittest.TestCase):
    def test_word_by_word(self):
        for sym in COMMANDS:
            line = "start " + word_of(sym) + " stop end"
            self.assertEqual(tape_line((START, sym, STOP, END)), line)
            self.assertEqual(read_tape(line), (START, sym, STOP, END))
        self.assertEqual(tape_line((START, STOP, END)), "start stop end")
        self.assertEqual(tape_line((START, PORT, END)), "start port end")
        self.assertEqual(read_tape("start port end"), (START, PORT, END))
        line = "start forth right d2 left d0 d15 w0 w72 w9 port end"
        tape = (6, 3, 2, 10, 1, 8, 23, 24, 96, 33, 4, 7)
        self.assertEqual(tape_line(tape), line)
        self.assertEqual(read_tape(line), tape)

    def test_there_and_back(self):
        rng = random.Random(103)
        for length in (3, 4, 5, 30, 399, 400):
            for _ in range(20):
                tape = random_tape(rng, length)
                line = tape_line(tape)
                self.assertEqual(line, " ".join(word_of(sym) for sym in tape))
                got = read_tape(line)
                self.assertEqual(got, tape)
                self.assertIsInstance(got, tuple)
                self.assertTrue(is_tape(got))

    def refuses(self, text):
        with self.assertRaises(BadTape, msg=text):
            read_tape(text)

    def test_bad_spaces(self):
        for text in (
            "", " ", "  ", "start stop end ", " start stop end", "start  stop end", "start stop  end", "start stop end\n",
            "\nstart stop end", "start\tstop end", "start stop\tend", "start\nstop end", "start stop end\r", "start stop end\x00",
            "startstop end", "start stopend", "start\u00a0stop end", "start\x0bstop end", "start stop end\t",
        ):
            self.refuses(text)

    def test_bad_words(self):
        words = (
            "START", "Stop", "Forth", "FORTH", "D2", "W2", "d16", "d99", "w73", "w100", "d00", "d01", "w00", "w01", "w072", "d",
            "w", "d-1", "w-1", "d+1", "w+1", "d 1", "d1.0", "1", "3", "0", "d1x", "xd1", "forth,", "\"forth\"", "d\u0661", "w\u00b2",
            "x3", "f", "", "none", "None", "digit", "write", "begin", "w1_0", "dd1", "forthforth",
        )
        for word in words:
            self.refuses("start " + word + " stop end")
            self.refuses("start forth " + word + " left port end")
        for word in ("Start", "START", "STOP", "END", "Port", "End"):
            self.refuses("start forth stop end".replace(word.lower(), word) if word != "Port" else "start Port end")

    def test_words_at_the_wrong_place(self):
        for text in (
            "start", "end", "stop", "start end", "start stop", "stop end", "start forth end", "start forth stop", "forth stop end",
            "start start stop end", "start stop stop end", "start port stop end", "start stop port end", "start end stop end",
            "start stop end end", "start start", "end stop start", "start forth stop end forth", "forth start stop end",
            "start forth forth", "start d1 w1 d2 end", "start stop forth end",
        ):
            self.refuses(text)

    def test_too_long(self):
        self.assertEqual(len(read_tape("start " + "w1 " * 397 + "stop end")), 400)
        for many in (398, 399, 2000):
            self.refuses("start " + "w1 " * many + "stop end")

    def test_one_word_left_out_or_added(self):
        words = "start forth stop end".split(" ")
        for at in (0, 2, 3):
            self.refuses(" ".join(words[:at] + words[at + 1:]))
        for at in range(5):
            for word in ("start", "end"):
                self.refuses(" ".join(words[:at] + [word] + words[at:]))
        self.assertEqual(read_tape("start stop end"), (START, STOP, END))

    def test_the_error_is_the_only_one(self):
        try:
            read_tape("x")
        except RametError as error:
            self.assertIs(type(error), BadTape)


if __name__ == "__main__":
    unittest.main()
