"""The constructor's pattern, and the places at which it works; all counted from its corner."""

from ramet.errors import BadRing
from ramet.kinds import START
from ramet.places import next_place
from ramet.space import moved
from ramet.tape import copies
from ramet.walker import meaning

LEAST_RING = 12
MOST_RING = 1000


def width(n):
    """Return the number of columns of a ring of n cells."""
    return n // 2


def arm_column(n):
    """Return the column in which the arm, the reader and the join of a ring of n cells stand."""
    return (width(n) - 1) // 2


def body(n):
    """Return the constructor with an empty ring of n cells."""
    _check_ring(n)
    last, a = width(n) - 1, arm_column(n)
    cells = {(x, 2): ("wire", 0, 0) for x in range(last)}
    cells[last, 2] = ("wire", 3, 0)
    cells[0, 3] = ("wire", 1, 0)
    for x in range(1, last + 1):
        cells[x, 3] = ("wire", 2, 0)
    cells[a, 0] = ("head", 1, 1, 0, 0)
    cells[a, 1] = ("arm", 1, 1, 0, 0)
    cells[a, 2] = ("reader", 0, 0, 0, 1, 0, 0)
    cells[a, 3] = ("join", 2, 0, 0, 0)
    return cells


def ring(n):
    """Return the places of a ring of n cells in the order of its wires, that of the reader first."""
    _check_ring(n)
    w, a = width(n), arm_column(n)
    east = [(x, 2) for x in range(a, w)]
    back = [(w - 1 - k, 3) for k in range(w)]
    return tuple(east + back + [(x, 2) for x in range(a)])


def _check_ring(n):
    if n < LEAST_RING or n > MOST_RING or n % 2 != 0:
        raise BadRing(f"no ring has {n} cells")


def ring_size(tape):
    """Return the number of cells of the ring for a tape, without a look at what it means."""
    return 2 * len(tape) + 6


def ring_of(tape):
    """Return the number of cells of the ring for a tape, which must mean something."""
    meaning(tape)
    return ring_size(tape)


def machine(tape):
    """Return the constructor with its tape, about to begin."""
    return _filled(ring_of(tape), ("reader", 0, 0, 1, 1, 0, 0), tape)


def parked(tape):
    """Return the constructor at rest. START has left the ring: the parked reader holds it."""
    return _filled(ring_of(tape), ("reader", 0, 0, 4, 1, 2, START), tape[1:])


def _filled(n, reader, symbols):
    """Return a constructor with a reader, and with symbols in its ring, the first one next to the reader."""
    cells = body(n)
    a = arm_column(n)
    cells[a, 2] = reader
    cells[a, 3] = ("join", 2, 0, 1, 0)
    # The symbols never reach back to the join, so all these places have wires.
    for place, sym in zip(reversed(ring(n)), symbols):
        kind, way, _ = cells[place]
        cells[place] = (kind, way, sym)
    return cells


def built(tape):
    """Return the cells that a tape means."""
    return moved(meaning(tape).cells, arm_column(ring_size(tape)), 0)


def road_of(tape):
    """Return the places of a tape's road, in ascending order of (y, x)."""
    made = meaning(tape)
    a = arm_column(ring_size(tape))
    return tuple([(x + a, y) for x, y in made.road])


def body_box(tape):
    """Return the box of the constructor."""
    return (0, 0, width(ring_of(tape)) - 1, 3)


def room(tape):
    """Return the least box that has all places at which the constructor works."""
    made = meaning(tape)
    # What is built needs no look: it stands on the road.
    places = list(made.road)
    if copies(tape):
        places.append(next_place(made.place, made.direction))
    x0, y0, x1, y1 = body_box(tape)
    a = arm_column(ring_size(tape))
    columns = [x + a for x, _ in places]
    rows = [y for _, y in places]
    return (min(x0, min(columns)), min(y0, min(rows)), max(x1, max(columns)), max(y1, max(rows)))
