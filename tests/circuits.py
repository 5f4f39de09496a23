"""Nets to try, what their cells do in a run, and nets with more room between the cells."""

from ramet.space import step

from tests.helpers import STEPS

KINDS = ("wire", "wire", "wire", "not", "fork", "cross", "and", "or")
MOVED = {(1, 0): 0, (0, -1): 1, (-1, 0): 2, (0, 1): 3}


def random_symbol(rng):
    return rng.choice([0, 0, 0, 8, 9, rng.randint(1, 96)])


def random_cell(rng, kind, way, side):
    if kind in ("wire", "not"):
        return (kind, way, random_symbol(rng))
    if kind == "fork":
        sym = random_symbol(rng)
        return (kind, way, side, sym, rng.choice([0, 0, 1, 2]) if sym else 0)
    if kind == "cross":
        return (kind, way, side, random_symbol(rng), random_symbol(rng))
    return (kind, way, side, rng.choice([0, 0, 1, 2]), rng.choice([0, 0, 1, 2]))


def random_net(rng):
    """Return a net in which each cell is drawn alone."""
    width, height, full = rng.randint(1, 7), rng.randint(1, 6), rng.choice([0.3, 0.6, 1])
    places = [(x - 2, y - 2) for x in range(width) for y in range(height) if rng.random() < full]
    return {place: random_cell(rng, rng.choice(KINDS), rng.randrange(4), rng.randrange(2)) for place in places}


def ring_places(width, height):
    top = [(x, 0) for x in range(width - 1)] + [(width - 1, y) for y in range(height - 1)]
    return top + [(x, height - 1) for x in range(width - 1, 0, -1)] + [(0, y) for y in range(height - 1, 0, -1)]


def ring_of_cells(rng):
    """Return a net with a ring of cells, round which symbols may go, and cells beside it."""
    net = random_net(rng) if rng.random() < 0.6 else {}
    path = ring_places(rng.randint(2, 6), rng.randint(2, 5))
    for k, (x, y) in enumerate(path):
        before, after = path[k - 1], path[(k + 1) % len(path)]
        came, way = MOVED[x - before[0], y - before[1]], MOVED[after[0] - x, after[1] - y]
        kind, side = rng.choice(KINDS), rng.randrange(2)
        if came != way:
            # At a corner, only some cells let the ring go on.
            kind = rng.choice(["wire", "wire", "not", "fork"])
            side = 0 if (way + 1) % 4 == came else 1
        net[x, y] = random_cell(rng, kind, way, side)
    return net


def handed_in_step(before, after):
    """Return, for each channel of a cell, the symbol that it hands on in a step, or 0."""
    kind, *items = before
    if kind in ("and", "or"):
        one, two = items[2:]
        if not one or not two or after[3]:
            return [0]
        zero = (one == 1 or two == 1) if kind == "and" else (one == 1 and two == 1)
        return [8 if zero else 9]
    first = {"wire": 2, "not": 2, "fork": 3, "cross": 3}[kind]
    channels = 2 if kind == "cross" else 1
    return [before[first + k] if not after[first + k] else 0 for k in range(channels)]


def watch(net, steps):
    """Run a net: return what each node hands on, by place and channel, and the last step of a change."""
    heard = {(place, k): ([], []) for place in net for k in range(2 if net[place][0] == "cross" else 1)}
    last, now = 0, net
    for time in range(1, steps + 1):
        after = step(now)
        if after == now:
            break
        last = time
        for place in now:
            for channel, sym in enumerate(handed_in_step(now[place], after[place])):
                if sym:
                    heard[place, channel][0].append(time)
                    heard[place, channel][1].append(sym)
        now = after
    return heard, last


def emptied(state):
    return state[:2] + (0,) if state[0] in ("wire", "not") else state[:3] + (0, 0)


def ways_out(state):
    """Return the directions in which a cell gives."""
    side = (state[1] + 1 + 2 * state[2]) % 4
    return (state[1], side) if state[0] in ("fork", "cross") else (state[1],)


def gives_to(net, place, way):
    """Tell by the rule whether what a cell gives in a direction is taken, if the cell there is empty."""
    there = (place[0] + STEPS[way][0], place[1] + STEPS[way][1])
    if there not in net or way not in ways_out(net[place]):
        return False
    kind = net[place][0]
    giver = net[place][:2] + (9,) if kind in ("wire", "not") else net[place][:3] + {"fork": (9, 0), "cross": (9, 9)}.get(kind, (2, 2))
    pair = {place: giver, there: emptied(net[there])}
    return step(pair)[there] != pair[there]


def with_room(net, at, upright):
    """Return the net with an empty column behind the column `at` (or row), bridged by empty wires.

    It comes with the new place of each cell of the net.
    """
    axis = 1 if upright else 0
    ways = (3, 1) if upright else (0, 2)
    new = {place: place if place[axis] <= at else (place[0] + 1 - axis, place[1] + axis) for place in net}
    result = {new[place]: net[place] for place in net}
    for place in net:
        for way, edge in zip(ways, (at, at + 1)):
            if place[axis] == edge and gives_to(net, place, way):
                dx, dy = STEPS[way]
                result[new[place][0] + dx, new[place][1] + dy] = ("wire", way, 0)
    return result, new
