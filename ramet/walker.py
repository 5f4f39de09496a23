"""The walker: it carries out the commands of a tape as an arm does, and notes what comes of it."""

from ramet.errors import BadTape, InTheWay, NoRoom
from ramet.kinds import DIGIT, FORTH, LEFT, MOST_COUNT, WRITE, written_state
from ramet.places import NORTH, by_rows, next_place
from ramet.tape import REACH, is_tape

MOST_ROAD = 4096


class Made:
    """What a tape means: the cells that it writes, and how the walk goes."""

    def __init__(self, cells, road, steps, lengths, visits, trail, place, direction):
        self.cells = cells
        self.road = road
        self.steps = steps
        self.lengths = lengths
        self.visits = visits
        self.trail = trail
        self.place = place
        self.direction = direction


class Walker:
    """A walk. The trail has pairs (place, direction), and the root's place first."""

    def __init__(self):
        self._place = (0, 0)
        self._direction = NORTH
        self._count = 0
        self._trail = [((0, 1), NORTH)]
        self._on_trail = {(0, 1): True}
        self._cells = {}
        self._fronts = {}
        self._road = {(0, 0): True}
        self._steps = []
        self._lengths = [1]
        self._visits = []

    def carry_out(self, command):
        """Carry out a command, and note what it did."""
        done, visited = ("turn", 0), ()
        if command >= WRITE:
            done = ("write", self._take_count())
            for _ in range(done[1]):
                self._write(written_state(command - WRITE))
        elif command >= DIGIT:
            self._count = min(MOST_COUNT, 16 * self._count + command - DIGIT)
            done = ("digit", 0)
        elif command == FORTH:
            done = ("forth", self._take_count())
            visited = tuple([self._step() for _ in range(done[1])])
        else:
            self._turn(command)
        self._steps.append(done)
        self._lengths.append(len(self._trail))
        self._visits.append(visited)

    def _take_count(self):
        """Return how often a command is carried out, and use the count up."""
        times = max(1, self._count)
        self._count = 0
        return times

    def _turn(self, command):
        quarters = 1 if command == LEFT else 3
        self._direction = (self._direction + quarters) % 4
        self._count = 0

    def _step(self):
        """Take one step, and return the place to which it leads."""
        place = next_place(self._place, self._direction)
        x, y = place
        if x < -REACH or x > REACH or y < -REACH or y > -1:
            raise NoRoom(f"a step leads to {place}, which is out of reach")
        if place in self._on_trail or place in self._cells or place in self._fronts:
            raise InTheWay(f"a step leads to {place}, which is not free or in front of an arm")
        if place not in self._road and len(self._road) >= MOST_ROAD:
            raise NoRoom("the road has too many places")
        self._trail.append((self._place, self._direction))
        self._on_trail[self._place] = True
        self._road[place] = True
        self._place = place
        return place

    def _write(self, state):
        """Write a state at the walker's place, and go back by one entry of the trail."""
        if len(self._trail) < 2:
            raise InTheWay("only the root is left of the arm")
        if state is not None and state[0] == "arm":
            front = next_place(self._place, state[1])
            if front in self._on_trail:
                raise InTheWay("an arm would be written whose front is on the trail")
            self._fronts[front] = True
        # Nothing was written here before, because a step leads to a free place only.
        if state is not None:
            self._cells[self._place] = state
        self._place, self._direction = self._trail.pop()
        del self._on_trail[self._place]

    def made(self):
        """Return what has come of the walk so far."""
        return Made(
            {place: self._cells[place] for place in self._cells},
            tuple(by_rows(self._road)),
            tuple(self._steps),
            tuple(self._lengths),
            tuple(self._visits),
            tuple([place for place, _ in self._trail]),
            self._place,
            self._direction,
        )


def meaning(tape):
    """Return what a tape means."""
    if not is_tape(tape):
        raise BadTape("the value is not a tape")
    walker = Walker()
    for command in tape[1:-2]:
        walker.carry_out(command)
    return walker.made()
