"""Descriptions: the tape whose walk writes a pattern."""

from ramet.errors import NoRoom
from ramet.kinds import DIGIT, END, FORTH, LEFT, MOST_COUNT, RIGHT, START, STOP, WRITE, written_number
from ramet.tape import REACH
from ramet.walker import meaning


def times(command, n):
    """Return the symbols that give a command n times."""
    symbols = []
    left = n
    while left > 0:
        count = min(left, MOST_COUNT)
        if count >= 16:
            symbols.append(DIGIT + count // 16)
        if count >= 2:
            symbols.append(DIGIT + count % 16)
        symbols.append(command)
        left -= count
    return tuple(symbols)


def describe(pattern):
    """Return the tape that describes a pattern."""
    numbers = {place: written_number(pattern[place]) for place in pattern}
    for x, y in pattern:
        if x < -REACH or x > REACH or y < -REACH or y > -1:
            raise NoRoom(f"the place {x}, {y} is out of reach")
    tape = (START,) + commands(numbers, -1) + (STOP, END)
    # This refuses a tape with too many symbols, too: it is none.
    meaning(tape)
    return tape


def commands(numbers, last):
    """Return the commands that write states, told by their numbers, in rows that end with `last`."""
    if len(numbers) == 0:
        return ()
    top = min([y for _, y in numbers])
    rows = [{} for _ in range(top, last + 1)]
    for x, y in numbers:
        rows[y - top][x] = numbers[x, y]
    symbols = list(times(FORTH, -top))
    # How many rows above this one are written together with it.
    above = 0
    for row, following in zip(rows, rows[1:] + [None]):
        if following is not None and _is_taken_together(row, following):
            above += 1
        else:
            symbols.extend(_west_part(row))
            symbols.extend(_east_part(row))
            symbols.extend(times(WRITE + row.get(0, 0), above + 1))
            above = 0
    return tuple(symbols)


def _is_taken_together(row, following):
    """Tell whether two rows have nothing but their middles, and the same ones."""
    for x in list(row) + list(following):
        if x != 0:
            return False
    return row.get(0, 0) == following.get(0, 0)


def _west_part(row):
    """Return the commands for the places of a row to the west of the middle."""
    least = min(row, default=0)
    if least >= 0:
        return ()
    numbers = [row.get(x, 0) for x in range(least, 0)]
    return (LEFT,) + times(FORTH, -least) + _writes(numbers) + (RIGHT,)


def _east_part(row):
    """Return the commands for the places of a row to the east of the middle."""
    greatest = max(row, default=0)
    if greatest <= 0:
        return ()
    numbers = [row.get(greatest - k, 0) for k in range(greatest)]
    return (RIGHT,) + times(FORTH, greatest) + _writes(numbers) + (LEFT,)


def _writes(numbers):
    """Return the commands that write states one after the other; equal neighbours are taken together."""
    symbols = []
    many = 0
    for number, following in zip(numbers, numbers[1:] + [-1]):
        many += 1
        if number != following:
            symbols.extend(times(WRITE + number, many))
            many = 0
    return tuple(symbols)
