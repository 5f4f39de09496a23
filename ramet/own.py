"""Tapes that describe their own constructor."""

from ramet.body import arm_column, body, body_box, built, ring_size, road_of, width
from ramet.describe import commands
from ramet.errors import NoRoom, NotOwn, NotWritten
from ramet.kinds import END, PORT, START, written_number
from ramet.pace import give_steps
from ramet.places import NORTH, next_place
from ramet.space import box, moved, union
from ramet.tape import REACH, copies
from ramet.walker import meaning

# The last written number of a state that may be put down beside a child.
LAST_GOOD = 48
LEAST_TRAIL = 4

# The ring with which `heir` begins, and how far to the north its child stands at least.
FIRST_RING = 92
LEAST_DISTANCE = 8


def own(tape):
    """Return the child's corner, or None if the tape is not its own."""
    made = meaning(tape)
    if not copies(tape) or made.direction != NORTH or len(made.trail) < LEAST_TRAIL:
        return None
    # The child's join stands to the north of the place at which the walk ends.
    corner = (made.place[0], made.place[1] - 4)
    inside, others = _parts(tape, corner)
    if inside != moved(body(ring_size(tape)), corner[0], corner[1]):
        return None
    if _is_road_free(tape, corner) and _are_goods(others, tape, corner):
        return corner
    return None


def goods(tape):
    """Return what a tape of its own puts down beside the child."""
    _, others = _parts(tape, _corner_of_child(tape))
    return others


def born(tape):
    """Return the step after which the child's reader has just begun to give."""
    _corner_of_child(tape)
    made = meaning(tape)
    n = ring_size(tape)
    return give_steps(made)[-1] + 3 * len(made.trail) + 4 + 2 * arm_column(n) + n


def _corner_of_child(tape):
    corner = own(tape)
    if corner is None:
        raise NotOwn("the tape is not its own")
    return corner


def _parts(tape, corner):
    """Return the built cells in the child's box, and the others."""
    cells = built(tape)
    bounds = _child_box(tape, corner)
    inside = {place: cells[place] for place in cells if _is_in(place, bounds)}
    return inside, {place: cells[place] for place in cells if place not in inside}


def _child_box(tape, corner):
    x0, y0, x1, y1 = body_box(tape)
    dx, dy = corner
    return (x0 + dx, y0 + dy, x1 + dx, y1 + dy)


def _is_in(place, bounds):
    x0, y0, x1, y1 = bounds
    return x0 <= place[0] <= x1 and y0 <= place[1] <= y1


def _childs_road(tape, corner):
    """Return a dict whose keys are the places of the child's road."""
    dx, dy = corner
    return {(x + dx, y + dy): True for x, y in road_of(tape)}


def _is_road_free(tape, corner):
    """Tell whether no entry of the trail at the end, except the root, is on the child's road."""
    road = _childs_road(tape, corner)
    a = arm_column(ring_size(tape))
    for x, y in meaning(tape).trail[1:]:
        if (x + a, y) in road:
            return False
    return True


def _are_goods(others, tape, corner):
    """Tell whether the cells outside of the child's box may be put down there."""
    bounds = _child_box(tape, corner)
    road = _childs_road(tape, corner)
    for place in others:
        if written_number(others[place]) > LAST_GOOD:
            return False
        for spot in [place] + [next_place(place, way) for way in range(4)]:
            if spot in road or _is_in(spot, bounds):
                return False
    return True


def heir(pattern):
    """Return a tape of its own whose goods are a pattern, moved."""
    for place in pattern:
        if written_number(pattern[place]) > LAST_GOOD:
            raise NotWritten(f"{pattern[place]} cannot be put down beside a child")
    x0, y0, x1, y1 = box(pattern) or (0, 0, -1, -1)
    lines = y1 - y0 + 1
    if lines > REACH or x1 - x0 + 1 > REACH:
        raise NoRoom("the pattern has too many lines or columns")
    from_its_corner = moved(pattern, -x0, -y1)
    distance = max(LEAST_DISTANCE, lines + 2)
    n = FIRST_RING
    tape = _heir_with_ring(n, distance, from_its_corner)
    while ring_size(tape) != n:
        n = ring_size(tape)
        tape = _heir_with_ring(n, distance, from_its_corner)
    # This refuses a tape with too many symbols, too: it is none.
    meaning(tape)
    return tape


def _heir_with_ring(n, distance, pattern):
    """Return the tape for a child with a ring of n cells; (0, 0) is the south-west corner of the goods."""
    south = 3 - distance
    child = moved(body(n), 0, -distance)
    cells = moved(union(child, moved(pattern, width(n) + 1, south)), -arm_column(n), 0)
    numbers = {place: written_number(cells[place]) for place in cells}
    return (START,) + commands(numbers, south) + (PORT, END)
