"""Tapes: the tuples of symbols that a constructor reads, and their texts."""

from ramet.errors import BadTape
from ramet.kinds import DIGIT, END, FORTH, LEFT, MOST_WRITTEN, PORT, RIGHT, START, STOP, WRITE, is_between

MOST_SYMBOLS = 400
REACH = 200

# The words of the symbols 1 to 7, which have no number; no symbol is 0.
PLAIN_WORDS = ("", "left", "right", "forth", "port", "stop", "start", "end")


def is_tape(value):
    """Tell whether a value is a tape."""
    if not isinstance(value, tuple) or len(value) < 3 or len(value) > MOST_SYMBOLS:
        return False
    for sym in value:
        if not is_between(sym, LEFT, WRITE + MOST_WRITTEN):
            return False
    for sym in value[1:-2]:
        if not _is_command(sym):
            return False
    return value[0] == START and value[-2] in (STOP, PORT) and value[-1] == END


def _is_command(sym):
    """Tell whether a symbol is a command."""
    return sym in (FORTH, LEFT, RIGHT) or sym >= DIGIT


def copies(tape):
    """Tell whether a tape makes its constructor copy it."""
    return PORT in tape


def tape_line(tape):
    """Return the line of words of a tape."""
    return " ".join([_word(sym) for sym in tape])


def _word(sym):
    """Return the word of a symbol."""
    if sym >= WRITE:
        return f"w{sym - WRITE}"
    return f"d{sym - DIGIT}" if sym >= DIGIT else PLAIN_WORDS[sym]


def read_tape(text):
    """Return the tape with this line of words."""
    symbols = {_word(sym): sym for sym in range(LEFT, WRITE + MOST_WRITTEN + 1)}
    tape = tuple([symbols.get(word, 0) for word in text.split(" ")])
    if not is_tape(tape):
        raise BadTape("the line is not the text of a tape")
    return tape
