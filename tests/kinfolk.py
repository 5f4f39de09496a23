"""Constructors, written a second time: their pictures, their steps, and tapes of their own to try."""

import functools

from ramet.describe import describe
from ramet.tape import read_tape
from ramet.walker import meaning

from tests.walks import Walk

STATES = {
    ">": ("wire", 0, 0), "^": ("wire", 1, 0), "<": ("wire", 2, 0), "v": ("wire", 3, 0),
    "H": ("head", 1, 1, 0, 0), "A": ("arm", 1, 1, 0, 0), "R": ("reader", 0, 0, 0, 1, 0, 0), "J": ("join", 2, 0, 0, 0),
}
START, END, STOP, PORT, LEFT, RIGHT, FORTH = 6, 7, 5, 4, 1, 2, 3
# One value that is no tape for each thing that can be wrong, and lines of tapes that are refused.
NO_TAPES = ((), None, 5, "start stop end", [6, 5, 7], (6, 5), (6, 7), (5, 7, 6), (6, 5, 7, 7), (6, True, 5, 7), (6, 6, 5, 7))
REFUSED = {
    "start w1 stop end": "InTheWay", "start d2 forth left left forth port end": "InTheWay",
    "start right right forth stop end": "NoRoom", "start d12 d9 forth port end": "NoRoom",
}


def patterned(rows):
    """Return the pattern of a picture; blanks are ground."""
    return {(x, y): STATES[sign] for y, row in enumerate(rows) for x, sign in enumerate(row) if sign != " "}


def picture(n):
    """Return the picture of the constructor with an empty ring of n cells."""
    width = n // 2
    a = (width - 1) // 2
    rest = width - 1 - a
    return [" " * a + "H", " " * a + "A", ">" * a + "R" + ">" * (rest - 1) + "v", "^" + "<" * (a - 1) + "J" + "<" * rest]


def around_ring(cells, n):
    """Return the places of a ring in the order in which a symbol passes them, from the reader on."""
    ways = ((1, 0), (0, -1), (-1, 0), (0, 1))
    place = next(place for place, state in cells.items() if state[0] == "reader")
    places = []
    for _ in range(n):
        places.append(place)
        dx, dy = ways[cells[place][1]]
        place = (place[0] + dx, place[1] + dy)
    return places


def numbers_of(tape):
    """Return (M, n, w, a) of a tape."""
    many = len(tape)
    n = 2 * many + 6
    return many, n, n // 2, (n // 2 - 1) // 2


@functools.lru_cache(maxsize=None)
def told_gives(tape):
    """The steps of 6.6, from the second walk."""
    walk = Walk(tape)
    step, steps = 4, [4]
    for (what, times), length in zip(walk.steps, walk.lengths):
        step += {"digit": 2 * length + 2, "turn": 2 * length + 2, "forth": 2 * length + 3 * times + 2,
                 "write": 2 * length + times + 2}[what]
        steps.append(step)
    return tuple(steps)


@functools.lru_cache(maxsize=None)
def told_done(tape):
    """The three numbers of 6.7."""
    many, n, _, _ = numbers_of(tape)
    t, length = told_gives(tape)[-1], len(Walk(tape).entries)
    if PORT in tape:
        s = t + 2 * length + 2 * many
        return (s + 2 * length + 2, s + many + 6, t + n + 3)
    return (t + 2 * length + 1, t + many + 8, n + 1)


def at_corner(pattern, tape):
    """Return a pattern that is counted from the head, counted from the corner."""
    a = numbers_of(tape)[3]
    return {(x + a, y): state for (x, y), state in pattern.items()}


def symbols(line):
    """Return the symbols of some commands."""
    return read_tape("start " + line + " stop end")[1:-2] if line else ()


def own_tape(way, change=None, tail="", n=92):
    """Return the tape that goes `way` (commands that end in a look to the north) and describes its child there.

    `change(cells, w, a)` may change the child's cells, counted from the place where the walk ends;
    so the child's head is at (0, -4), and its join at (0, -1). `tail` has commands in front of the port.
    """
    a = (n // 2 - 1) // 2
    cells = {(x - a, y - 4): state for (x, y), state in patterned(picture(n)).items()}
    if change is not None:
        change(cells, n // 2, a)
    tape = (START,) + symbols(way) + describe(cells)[1:-2] + symbols(tail) + (PORT, END)
    return tape if numbers_of(tape)[1] == n else own_tape(way, change, tail, numbers_of(tape)[1])


def told_heir(pattern, n=92):
    """Return the tape of 6.12, made from `describe`: the rows behind the join's are taken away again."""
    lines = [y for _, y in pattern]
    h = max(lines) - min(lines) + 1 if pattern else 0
    distance = max(8, h + 2)
    a = (n // 2 - 1) // 2
    cells = {(x - a, y - distance): state for (x, y), state in patterned(picture(n)).items()}
    for x, y in pattern:
        column = x - min(x for x, _ in pattern) + n // 2 + 1
        cells[column - a, y - max(lines) + 3 - distance] = pattern[x, y]
    rows_behind = symbols(f"d{distance - 4} w0" if distance - 4 < 16 else f"d{(distance - 4) // 16} d{(distance - 4) % 16} w0")
    tape = describe(cells)
    assert tape[-2 - len(rows_behind):-2] == rows_behind
    tape = tape[:-2 - len(rows_behind)] + (PORT, END)
    return tape if numbers_of(tape)[1] == n else told_heir(pattern, numbers_of(tape)[1])


def child_of(tape):
    """Return the corner of a tape's child, counted from the corner."""
    x, y = meaning(tape).place
    return (x, y - 4)
