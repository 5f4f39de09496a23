"""Families: which machines there are in a yard, and what becomes of them, told without running it."""

from ramet.body import machine
from ramet.errors import BadWall, Crowded, NoRoom, NoSuchKin, NotQuiet, TooMany
from ramet.kin import FAR, MOST_KIN, apart, is_barrier
from ramet.meeting import cells_near, halt_among
from ramet.member import Breed, Member
from ramet.space import moved, union

# The two kinds of events. At equal times, turns come before births.
TURN = 0
BIRTH = 1


class Families:
    """The machines of a yard, with the walls that stand in it."""

    def __init__(self, starts, walls):
        self._walls = {place: walls[place] for place in walls}
        self._members = []
        # The greatest time up to which everything has happened; None if nothing has.
        self._grown = None
        for tape, corner in starts:
            self._add_start(Member(Breed(tape), corner, 0, -1, 0))
        for place in self._walls:
            self._check_barrier(place)

    def _add_start(self, member):
        if _is_far(member.room):
            raise NoRoom("the room of a machine is too far away")
        for other in self._members:
            if not apart(member.room, other.room):
                raise Crowded("the rooms of two machines are not apart")
        self._members.append(member)

    def _check_barrier(self, place):
        if not is_barrier(self._walls[place]):
            raise BadWall(f"the cell at {place} is no wall")
        for member in self._members:
            x0, y0, x1, y1 = member.body_box
            if x0 <= place[0] <= x1 and y0 <= place[1] <= y1:
                raise BadWall(f"the wall at {place} stands in a machine")

    def grow(self, until):
        """Let everything happen whose time has come."""
        event = self._next_event()
        while event is not None and event[0] <= until:
            _, kind, number = event
            if kind == TURN:
                self._take_turn(number)
            else:
                self._give_birth(number)
            event = self._next_event()
        if self._grown is None or self._grown < until:
            self._grown = until

    def _next_event(self):
        """Return the next event as a tuple (time, kind, number), or None."""
        events = []
        for number, member in enumerate(self._members):
            if not member.has_had_turn:
                events.append((member.begin, TURN, number))
            elif member.is_free_parent() and not member.has_child:
                events.append((member.birth(), BIRTH, number))
        return min(events, default=None)

    def _take_turn(self, number):
        member = self._members[number]
        room = member.room
        things = cells_near(self._walls, room)
        for k, other in enumerate(self._members):
            if k == number or k == member.parent or apart(other.room, room):
                continue
            if other.over() > member.begin:
                raise Crowded(f"the machines {number} and {k} would work at the same time")
            things = union(things, cells_near(other.remains(), room))
        member.take_turn(halt_among(member, things))

    def _give_birth(self, number):
        parent = self._members[number]
        child = parent.child(number)
        if _is_far(child.room):
            raise NoRoom("the room of a child is too far away")
        if len(self._members) >= MOST_KIN:
            raise TooMany("there are too many machines")
        self._members.append(child)
        parent.has_child = True

    def machines(self):
        """Return a tuple (number, parent, generation, corner, begin, rest, halt) for each machine."""
        rows = []
        for number, one in enumerate(self._members):
            rows.append((number, one.parent, one.generation, one.corner, one.begin, one.rest, one.halt))
        return rows

    def tape(self, number):
        """Return the tape of a machine."""
        return self._member(number).breed.tape

    def line(self, number):
        """Return the numbers of a machine's ancestors, the eldest first."""
        ancestors = []
        parent = self._member(number).parent
        while parent >= 0:
            ancestors.append(parent)
            parent = self._members[parent].parent
        ancestors.reverse()
        return ancestors

    def cells_of(self, number):
        """Return the cells of a machine at rest."""
        return self._member(number).remains()

    def _member(self, number):
        if number < 0 or number >= len(self._members):
            raise NoSuchKin(f"there is no machine {number}")
        return self._members[number]

    def is_quiet(self, time):
        """Tell whether everything has happened, and all machines are at rest, at a time."""
        if self._grown is None or self._grown < time:
            return False
        for member in self._members:
            if member.rest > time or (member.is_free_parent() and not member.has_child):
                return False
        return True

    def start(self):
        """Return the pattern at time 0."""
        pattern = {place: self._walls[place] for place in self._walls}
        for member in self._members:
            if member.parent < 0:
                pattern = union(pattern, moved(machine(member.breed.tape), member.corner[0], member.corner[1]))
        return pattern

    def space(self, time):
        """Return the walls and the cells of all machines at rest."""
        if not self.is_quiet(time):
            raise NotQuiet(f"the family is not quiet at the time {time}")
        pattern = {place: self._walls[place] for place in self._walls}
        for member in self._members:
            pattern = union(pattern, member.remains())
        return pattern


def _is_far(box):
    """Tell whether a box has a place with a coordinate beyond FAR."""
    return min(box) < -FAR or max(box) > FAR
