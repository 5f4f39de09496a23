"""Repair: a neighbour is set down beside a pattern, and puts back what was lost."""

from ramet.arm import done, rest_of
from ramet.body import arm_column, body_box, machine, ring_size, road_of
from ramet.describe import describe
from ramet.engine import Engine
from ramet.errors import Crowded, NotNetCell, NotPart, NotStill, Touched
from ramet.kin import apart, moved_box
from ramet.places import next_place
from ramet.space import is_still, moved, union

MENDED = ("wire", "not", "fork", "cross", "and", "or", "join")
NET_CELLS = ("wire", "not", "fork", "cross", "and", "or", "join", "reader")


class Errand:
    """What a neighbour has to do: its tape, its corner, and the number of steps that it takes."""

    def __init__(self, tape, corner, steps):
        self.tape = tape
        self.corner = corner
        self.steps = steps


def errand(whole, lost, place):
    """Return the errand of a neighbour whose head begins at a place and puts back the lost cells."""
    _check_harm(whole, lost)
    tape = describe(moved(lost, -place[0], -place[1]))
    rest_of(tape)
    corner = (place[0] - arm_column(ring_size(tape)), place[1])
    found = Errand(tape, corner, done(tape))
    others = {spot: whole[spot] for spot in whole if spot not in lost}
    road = [(x + corner[0], y + corner[1]) for x, y in road_of(tape)]
    _check_crowd(others, found, road)
    _check_touch(others, road + list(lost))
    return found


def _check_harm(whole, lost):
    """Refuse lost cells that are not of the whole, or cannot be put back."""
    for place in lost:
        if whole.get(place) != lost[place]:
            raise NotPart(f"the cell at {place} is not a cell of the whole")
    if not is_still(whole):
        raise NotStill("the whole is not still")
    for place in lost:
        if lost[place][0] not in MENDED:
            raise NotNetCell(f"the cell at {place} cannot be put back")


def _check_crowd(others, task, road):
    """Refuse cells that are in the neighbour's way."""
    for place in road:
        if place in others:
            raise Crowded(f"the cell at {place} stands on the neighbour's road")
    _check_body(others, task)


def _check_body(pattern, task):
    """Refuse cells where the neighbour stands, and next to it."""
    bounds = _body_of(task)
    for x, y in pattern:
        if not apart((x, y, x, y), bounds):
            raise Crowded(f"the cell at {x}, {y} is too near to the neighbour")


def _body_of(task):
    """Return the box in which the neighbour stands."""
    return moved_box(body_box(task.tape), task.corner[0], task.corner[1])


def _check_touch(others, places):
    """Refuse cells that are next to some places, and are no net cells."""
    for place in places:
        for way in range(4):
            state = others.get(next_place(place, way))
            if state is not None and state[0] not in NET_CELLS:
                raise Touched(f"a cell next to {place} would be touched")


def repair(now, errand):
    """Return a pattern after a neighbour has done its errand, without the neighbour."""
    _check_body(now, errand)
    neighbour = moved(machine(errand.tape), errand.corner[0], errand.corner[1])
    engine = Engine(union(now, neighbour))
    engine.advance(errand.steps)
    after = engine.pattern()
    x0, y0, x1, y1 = _body_of(errand)
    return {(x, y): state for (x, y), state in after.items() if not (x0 <= x <= x1 and y0 <= y <= y1)}
