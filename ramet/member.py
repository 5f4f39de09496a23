"""The machines of a family, each by itself."""

from ramet.body import arm_column, body_box, built, ring_size, road_of, room
from ramet.kin import halted_cells, is_parent, moved_box, rest_after
from ramet.own import born, own
from ramet.space import moved
from ramet.walker import meaning


class Breed:
    """What a tape tells of every machine that has it. Places are counted from the machine's corner."""

    def __init__(self, tape):
        self.bears = is_parent(tape)
        self.tape = tape
        self.body_box = body_box(tape)
        self.room = room(tape)
        self.road = road_of(tape)
        self.built = built(tape)
        a = arm_column(ring_size(tape))
        self.visits = [[(x + a, y) for x, y in visited] for visited in meaning(tape).visits]
        self.way_to_child = own(tape)
        self.time_to_birth = born(tape) - 1 if self.bears else 0


class Member:
    """A machine of a family. Until its turn it counts as free."""

    def __init__(self, breed, corner, begin, parent, generation):
        self.breed = breed
        self.corner = corner
        self.begin = begin
        self.parent = parent
        self.generation = generation
        self.body_box = moved_box(breed.body_box, corner[0], corner[1])
        self.room = moved_box(breed.room, corner[0], corner[1])
        self.has_had_turn = False
        self.has_child = False
        self.halt = 0
        self.rest = begin + rest_after(breed.tape, 0)

    def take_turn(self, halt):
        """Note at which FORTH the machine is halted; 0 says that it is free."""
        self.has_had_turn = True
        self.halt = halt
        self.rest = self.begin + rest_after(self.breed.tape, halt)

    def is_free_parent(self):
        """Tell whether the machine has a child, or is going to have one."""
        return self.breed.bears and self.halt == 0

    def birth(self):
        """Return the time at which the child of a free parent begins."""
        return self.begin + self.breed.time_to_birth

    def child(self, number):
        """Return the child of a free parent that has this number."""
        corner = self.in_yard(self.breed.way_to_child)
        return Member(self.breed, corner, self.birth(), number, self.generation + 1)

    def over(self):
        """Return the time from which on the machine is over."""
        if self.is_free_parent():
            return max(self.rest, self.birth())
        return self.rest

    def in_yard(self, place):
        """Return the place in the yard of a place that is counted from the corner."""
        return (place[0] + self.corner[0], place[1] + self.corner[1])

    def remains(self):
        """Return the cells of the machine at rest."""
        return moved(halted_cells(self.breed.tape, self.halt), self.corner[0], self.corner[1])
