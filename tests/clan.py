"""Families, written a second time as 7.6 to 7.18 say it; and families to try."""

from ramet.body import built
from ramet.describe import describe
from ramet.errors import RametError
from ramet.kinds import written_state
from ramet.own import heir, own
from ramet.space import is_still

from tests.helpers import STEPS
from tests.kinfolk import numbers_of, own_tape, told_done, told_gives
from tests.walks import Walk, random_walk_tape

class Wrong(Exception):
    """Raised with the name of the error of the document."""


class Kin:
    """A machine of a clan, with its places in the yard."""

    def __init__(self, tape, corner, begin, parent, generation):
        self.tape, self.corner, self.begin, self.parent, self.generation = tape, corner, begin, parent, generation
        self.halt, self.turned, self.has_child = 0, False, False
        self.walk = Walk(tape)
        many, n, w, a = numbers_of(tape)
        t, length = told_gives(tape)[-1], len(self.walk.entries)
        self.child = own(tape) if 4 in tape else None
        self.done = max(told_done(tape))
        self.delay = t + 3 * length + 4 + 2 * a + n - 1
        self.shift = (corner[0] + a, corner[1])
        self.road = {self.in_yard(place) for place in self.walk.seen}
        corners = [corner, (corner[0] + w - 1, corner[1] + 3)] + list(self.road)
        if 4 in tape:
            dx, dy = STEPS[self.walk.direction]
            corners.append(self.in_yard((self.walk.place[0] + dx, self.walk.place[1] + dy)))
        self.low = (min(x for x, _ in corners), min(y for _, y in corners))
        self.high = (max(x for x, _ in corners), max(y for _, y in corners))

    def in_yard(self, place):
        return (place[0] + self.shift[0], place[1] + self.shift[1])

    def is_free_parent(self):
        return 4 in self.tape and self.halt == 0

    def rest(self):
        return self.begin + self.done + (6 * len(self.tape) + 40 if self.halt else 0)

    def over(self):
        return max(self.rest(), self.begin + self.delay) if self.is_free_parent() else self.rest()

    def is_near(self, place):
        """Tell whether a place is in the room, or next to a place of it."""
        out_x = max(self.low[0] - place[0], place[0] - self.high[0], 0)
        out_y = max(self.low[1] - place[1], place[1] - self.high[1], 0)
        return out_x + out_y < 2

    def is_near_room(self, other):
        out_x = max(self.low[0] - other.high[0], other.low[0] - self.high[0], 0)
        out_y = max(self.low[1] - other.high[1], other.low[1] - self.high[1], 0)
        return out_x + out_y < 2

    def cells(self):
        """The cells at rest; those of the body and of its ring are told by their pictures."""
        found = {}
        many, n, w, a = numbers_of(self.tape)
        for x in range(w):
            found[x, 2] = ("wire", 0, 0)
            found[x, 3] = ("wire", 2, 0)
        found[w - 1, 2], found[0, 3] = ("wire", 3, 0), ("wire", 1, 0)
        found[a, 0], found[a, 1] = ("head", 1, 1, 0, 0), ("arm", 1, 1, 0, 0)
        found[a, 2], found[a, 3] = ("reader", 0, 0, 4, 1, 2, 6), ("join", 2, 0, 1, 0)
        back = [(x, 2) for x in reversed(range(a))] + [(x, 3) for x in range(w)]
        for place, sym in zip(back, self.tape[1:]):
            found[place] = found[place][:2] + (sym,)
        found = {(x + self.corner[0], y + self.corner[1]): state for (x, y), state in found.items()}
        written = Walk(self.tape[:self.halt] + (5, 7)).cells if self.halt else self.walk.cells
        for place, state in written.items():
            x, y = self.in_yard(place)
            if self.is_free_parent():
                dx, dy = self.child[0] + self.corner[0], self.child[1] + self.corner[1]
                if dx <= x < dx + w and dy <= y < dy + 4:
                    continue
            found[x, y] = state
        return found


class Clan:
    """Returns by `machines` what Families returns, and raises Wrong with the name of the error."""

    def __init__(self, starts, walls):
        self.walls, self.kin = walls, [Kin(tape, corner, 0, -1, 0) for tape, corner in starts]

    def grow(self, until):
        while True:
            turns = [(kin.begin, 0, number) for number, kin in enumerate(self.kin) if not kin.turned]
            births = [(kin.begin + kin.delay, 1, number) for number, kin in enumerate(self.kin)
                      if kin.turned and kin.is_free_parent() and not kin.has_child]
            due = sorted(event for event in turns + births if event[0] <= until)
            if not due:
                return
            if due[0][1] == 0:
                self.turn(due[0][2])
            else:
                self.birth(due[0][2])

    def turn(self, number):
        me = self.kin[number]
        others = [kin for k, kin in enumerate(self.kin) if k not in (number, me.parent)]
        if any(other.over() > me.begin and me.is_near_room(other) for other in others):
            raise Wrong("Crowded")
        things = dict(self.walls)
        for other in others:
            if other.over() <= me.begin:
                things.update(other.cells())
        things = {place: state for place, state in things.items() if me.is_near(place)}
        halt = 0
        if things:
            if any(state[0] == "wire" and state[2] for state in me.walk.cells.values()):
                raise Wrong("Loaded")
            for (x, y), state in things.items():
                if state[0] == "arm" or state[0] == "wire" and state[2] or state[0] == "join" and state[4]:
                    dx, dy = STEPS[state[1]]
                    if (x + dx, y + dy) in me.road and (x + dx, y + dy) not in things:
                        raise Wrong("Loaded")
            met = [k + 1 for k, visited in enumerate(me.walk.visits) if any(me.in_yard(place) in things for place in visited)]
            halt = met[0] if met else 0
        me.turned, me.halt = True, halt

    def birth(self, number):
        me = self.kin[number]
        corner = (me.corner[0] + me.child[0], me.corner[1] + me.child[1])
        child = Kin(me.tape, corner, me.begin + me.delay, number, me.generation + 1)
        if min(child.low) < -50000 or max(child.high) > 50000:
            raise Wrong("NoRoom")
        if len(self.kin) >= 24:
            raise Wrong("TooMany")
        self.kin.append(child)
        me.has_child = True

    def machines(self):
        return [(number, kin.parent, kin.generation, kin.corner, kin.begin, kin.rest(), kin.halt) for number, kin in enumerate(self.kin)]


def random_barrier(rng):
    state = written_state(rng.choice([1, 2, 3, 4, 13, 16, rng.randint(13, 56), rng.randint(13, 56)]))
    return ("join",) + state[1:3] + (1, 0) if state[0] == "join" and rng.random() < 0.5 else state


def random_parent(rng):
    draw = rng.random()
    if draw < 0.4:
        return heir({})
    if draw < 0.8:
        pattern = {(rng.randint(0, 4), rng.randint(0, 9)): written_state(rng.choice([1, 4, rng.randint(13, 48)])) for _ in range(rng.randint(1, 5))}
        return heir(pattern)
    if draw < 0.85:
        return heir({(0, 0): ("wire", 0, 8)})
    turn, back = rng.choice([("left", "right"), ("right", "left")])
    return own_tape(f"d{rng.randint(1, 6)} forth {turn} d{rng.randint(1, 15)} forth {back} d{rng.randint(2, 9)} forth")


def random_worker(rng):
    while True:
        if rng.random() < 0.5:
            tape = random_walk_tape(rng, rng.choice([3, 8, 20, 40, 60]))[:-2] + (5, 7)
            if Walk(tape).error is not None:
                continue
        else:
            pattern = {(rng.randint(-8, 8), -rng.randint(1, 12)): written_state(rng.choice([1, 2, 3, 4, 13, 17, 20, 30, 40, 50, 58, rng.randint(1, 72)]))
                       for _ in range(rng.randint(1, 12))}
            try:
                tape = describe(pattern)
            except RametError:
                continue
        if is_still(built(tape)):
            return tape


def random_starts(rng, many, span):
    """Return starts whose rooms are apart."""
    starts = []
    for _ in range(many):
        tape = random_parent(rng) if rng.random() < 0.6 else random_worker(rng)
        for _ in range(8):
            more = starts + [(tape, (rng.randint(-span, span), rng.randint(-span, span)))]
            kins = [Kin(one, corner, 0, -1, 0) for one, corner in more]
            if not any(kins[-1].is_near_room(kin) for kin in kins[:-1]):
                starts = more
                break
    return starts


def random_walls(rng, starts, many):
    """Return walls; each line of machines has one in its way somewhere."""
    kins = [Kin(tape, corner, 0, -1, 0) for tape, corner in starts]
    walls = {}
    for _ in range(many):
        kin = rng.choice(kins)
        walls[rng.randint(kin.low[0] - 3, kin.high[0] + 3), rng.randint(kin.low[1] - 30, kin.high[1] + 3)] = random_barrier(rng)
    for kin in kins:
        if kin.child is not None:
            k = rng.randint(0, 3)
            x, y = rng.choice(sorted(kin.road))
            walls[x + k * kin.child[0], y + k * kin.child[1]] = random_barrier(rng)
    bodies = [(corner, numbers_of(tape)[2]) for tape, corner in starts]
    return {
        (x, y): state for (x, y), state in walls.items()
        if not any(cx <= x < cx + w and cy <= y < cy + 4 for (cx, cy), w in bodies)
    }


def random_family(rng, most_starts=4, span=55):
    starts = random_starts(rng, rng.randint(1, most_starts), span)
    return starts, random_walls(rng, starts, rng.choice([0, 2, 8, 40]))
