"""What families need to know of boxes, walls and tapes."""

from ramet.arm import done, rest_of
from ramet.body import arm_column, parked, ring_size
from ramet.errors import NotStill
from ramet.kinds import END, STOP
from ramet.own import goods
from ramet.space import is_still, moved, union
from ramet.tape import copies
from ramet.walker import meaning

FAR = 50000
MOST_KIN = 24

# For the kinds of walls, the index of the first item that must be 0; those behind it must be, too.
EMPTY_FROM = {"wire": 2, "not": 2, "fork": 3, "cross": 3, "and": 3, "or": 3, "join": 4}


def apart(first, second):
    """Tell whether two boxes share no place, and no place of one is next to a place of the other."""
    columns = _distance(first[0], first[2], second[0], second[2])
    rows = _distance(first[1], first[3], second[1], second[3])
    return columns + rows >= 2


def _distance(low, high, other_low, other_high):
    """Return the distance between two ranges of numbers, 0 if they share one."""
    return max(0, other_low - high, low - other_high)


def moved_box(box, dx, dy):
    """Return a box moved to the east by dx and to the south by dy."""
    return (box[0] + dx, box[1] + dy, box[2] + dx, box[3] + dy)


def is_barrier(state):
    """Tell whether a state is that of a wall."""
    if state is None:
        return False
    first = EMPTY_FROM.get(state[0])
    return first is not None and sum(state[first:]) == 0


def is_parent(tape):
    """Tell whether a tape is a parent's; refuse it if it is no worker's either."""
    # A value that is no tape has to be refused before it is asked for PORT.
    meaning(tape)
    if not copies(tape):
        rest_of(tape)
        return False
    if not is_still(goods(tape)):
        raise NotStill("the goods of the tape are not still")
    return True


def halted_cells(tape, halt):
    """Return the cells of a machine that was halted at a FORTH, or of a free one if that is 0."""
    if halt == 0:
        return _free_cells(tape)
    written = meaning(tape[:halt] + (STOP, END)).cells
    return union(parked(tape), moved(written, arm_column(ring_size(tape)), 0))


def _free_cells(tape):
    if copies(tape):
        return union(parked(tape), goods(tape))
    return rest_of(tape)


def rest_after(tape, halt):
    """Return the number of steps from the beginning of a machine to its rest."""
    if halt == 0:
        return done(tape)
    return done(tape) + 6 * len(tape) + 40
