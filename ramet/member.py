"""The machines of a family, each by itself."""

from ramet.body import arm_column, body_box, built, ring_size, road_of, room
from ramet.kin import halted_cells, is_parent, moved_box, rest_after
from ramet.own import born, own
from ramet.space import moved
from ramet.walker import meaning


class Breed:
    """What a tape tells of every machine that has it. Places are counted from the machine's corner."""

    def __init__(self, tape):
        self.bears = is_parent(tape)
        self.tape = tape
        self.body_box = body_box(tape)
        self.room = room(tape)
        self.road = road_of(tape)
        self.built = built(tape)
        a = arm_column(ring_size(tape))
        self.visits = [[(x + a, y) for x, y in visited] for visited in meaning(tape).visits]
        self.childs_corner = own(tape)
        self.childs_delay = born(tape) - 1 if self.bears else 0


class Member:
    """A machine of a family. Until its turn it counts as free."""

    def __init__(self, breed, corner, begin, parent, generation):
        self.breed = breed
        self.corner = corner
        self.begin = begin
        self.parent = parent
        self.generation = generation
        self.has_had_turn = False
        self.has_child = False
        self.halt = 0
        self.rest = begin + rest_after(breed.tape, 0)

    def take_turn(self, halt):
        """Note at which FORTH the machine is halted; 0 says that it is free."""
        self.has_had_turn = True
        self.halt = halt
        self.rest = self.begin + rest_after(self.breed.tape, halt)

    def is_free_parent(self):
        """Tell whether the machine has a child, or is going to have one."""
        return self.breed.bears and self.halt == 0

    def birth(self):
        """Return the time at which the child of a free parent begins."""
        return self.begin + self.breed.childs_delay

    def childs_corner(self):
        """Return the corner of the child of a free parent."""
        return self.place(self.breed.childs_corner)

    def over(self):
        """Return the time from which on the machine is over."""
        if self.is_free_parent():
            return max(self.rest, self.birth())
        return self.rest

    def place(self, spot):
        """Return the place in the yard of a place that is counted from the corner."""
        return (spot[0] + self.corner[0], spot[1] + self.corner[1])

    def room(self):
        """Return the room of the machine in the yard."""
        return moved_box(self.breed.room, self.corner[0], self.corner[1])

    def body_box(self):
        """Return the body box of the machine in the yard."""
        return moved_box(self.breed.body_box, self.corner[0], self.corner[1])

    def cells(self):
        """Return the cells of the machine at rest."""
        return moved(halted_cells(self.breed.tape, self.halt), self.corner[0], self.corner[1])
