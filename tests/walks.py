"""The walk of a tape, written a second time, entry by entry as 5.5 to 5.8 say it; and tapes to try."""

import functools

from ramet.tape import read_tape

from tests.helpers import STEPS

KINDS = (
    (1, "wire", [(0,)]), (5, "wire", [(8,), (9,)]), (13, "not", [(0,)]), (17, "fork", [(0, 0, 0), (1, 0, 0)]),
    (25, "cross", [(0, 0, 0), (1, 0, 0)]), (33, "and", [(0, 0, 0), (1, 0, 0)]), (41, "or", [(0, 0, 0), (1, 0, 0)]),
    (49, "join", [(0, 0, 0), (1, 0, 0)]), (57, "reader", [(0, 0, 1, 0, 0), (1, 0, 1, 0, 0)]), (65, "arm", [(1, 0, 0)]),
    (69, "head", [(1, 0, 0)]),
)


@functools.lru_cache(maxsize=None)
def state_of_number(number):
    """The table of 1.21."""
    states = {0: None}
    for first, kind, endings in KINDS:
        for way in range(4):
            for k, ending in enumerate(endings):
                states[first + way * len(endings) + k] = (kind, way) + ending
    return states[number]


def ahead(place, way):
    return (place[0] + STEPS[way][0], place[1] + STEPS[way][1])


class Walk:
    """Returns by its attributes what a Made has, or `error`, the name of the error."""

    def __init__(self, tape):
        self.place, self.direction, self.count = (0, 0), 1, 0
        self.entries = [((0, 1), 1)]
        self.written, self.seen = {}, {(0, 0): True}
        self.steps, self.lengths, self.visits = [], [1], []
        self.error = None
        for sym in tape[1:-2]:
            self.error = self.command(sym)
            if self.error:
                return
        self.cells = {place: state for place, state in self.written.items() if state is not None}
        self.road = tuple(sorted(self.seen, key=lambda place: (place[1], place[0])))
        self.steps, self.lengths, self.visits = tuple(self.steps), tuple(self.lengths), tuple(self.visits)
        self.trail = tuple(place for place, _ in self.entries)

    def command(self, sym):
        often = self.count if self.count else 1
        told, visited = ("turn", 0), []
        if 8 <= sym < 24:
            self.count = min(255, self.count * 16 + sym - 8)
            told = ("digit", 0)
        else:
            self.count = 0
        if sym in (1, 2):
            self.direction = (self.direction + {1: 1, 2: -1}[sym]) % 4
        if sym == 3 or sym >= 24:
            told = ("forth" if sym == 3 else "write", often)
            for _ in range(often):
                error = self.step() if sym == 3 else self.write(state_of_number(sym - 24))
                if error:
                    return error
                visited.append(self.place)
        self.steps.append(told)
        self.lengths.append(len(self.entries))
        self.visits.append(tuple(visited) if sym == 3 else ())
        return None

    def step(self):
        there = ahead(self.place, self.direction)
        if not (-200 <= there[0] <= 200 and -200 <= there[1] <= -1):
            return "NoRoom"
        on_trail = there == self.place or there in [place for place, _ in self.entries]
        fronts = [ahead(place, state[1]) for place, state in self.written.items() if state and state[0] == "arm"]
        if on_trail or self.written.get(there) is not None or there in fronts:
            return "InTheWay"
        if there not in self.seen:
            if len(self.seen) == 4096:
                return "NoRoom"
            self.seen[there] = True
        self.entries.append((self.place, self.direction))
        self.place = there
        return None

    def write(self, state):
        if len(self.entries) < 2:
            return "InTheWay"
        if state and state[0] == "arm" and ahead(self.place, state[1]) in [place for place, _ in self.entries]:
            return "InTheWay"
        self.written[self.place] = state
        self.place, self.direction = self.entries.pop()
        return None


def random_walk_tape(rng, length):
    """Return a tape whose walk tends to go on for some time."""
    words = ["forth"]
    while len(words) < length:
        draw = rng.random()
        if draw < 0.3:
            words.extend(rng.choice([["forth"], ["d" + str(rng.randint(0, 9)), "forth"], ["forth", "forth"]]))
        elif draw < 0.5:
            words.append(rng.choice(["left", "right"]))
        elif draw < 0.55:
            words.append("d" + str(rng.randint(0, 3)))
        elif draw < 0.75:
            words.append("w0" if rng.random() < 0.6 else "w" + str(rng.randint(1, 64)))
        elif draw < 0.85:
            words.extend(["d" + str(rng.randint(0, 6)), "w0" if rng.random() < 0.6 else "w" + str(rng.randint(1, 72))])
        else:
            words.append("w" + str(rng.randint(1, 72)))
    return read_tape("start " + " ".join(words) + " " + rng.choice(["stop", "port"]) + " end")
