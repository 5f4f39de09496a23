"""The rule of the yard written a second time, from the giving side, to compare `next_state` with."""

BACK, LEFT_HAND, RIGHT_HAND, FRONT = 2, 1, 3, 0


def kind_of(state):
    return "ground" if state is None else state[0]


def side_of(state):
    """The side as a turn from the front."""
    return LEFT_HAND if state[2] == 0 else RIGHT_HAND


def inlets(state):
    """For each place of a net cell: its index in the state, and the turns from which it takes."""
    kind = kind_of(state)
    if kind in ("wire", "not"):
        return [(2, (BACK, LEFT_HAND, RIGHT_HAND))]
    if kind == "fork":
        return [(3, (BACK, RIGHT_HAND if state[2] == 0 else LEFT_HAND))]
    if kind == "cross":
        return [(3, (BACK,)), (4, (RIGHT_HAND if state[2] == 0 else LEFT_HAND,))]
    if kind in ("and", "or"):
        return [(3, (BACK,)), (4, (side_of(state),))]
    if kind == "join":
        return [(4, (side_of(state),) if state[3] == 0 else (BACK,))]
    if kind == "reader":
        return [(6, (BACK,))]
    return []


def outlets(state):
    """The symbols that a cell offers, by the absolute direction."""
    kind = kind_of(state)
    found = {}
    if kind in ("wire", "not", "join", "port"):
        found[FRONT] = state[-1]
    elif kind == "cross":
        found[FRONT] = state[3]
        found[side_of(state)] = state[4]
    elif kind == "fork":
        if state[4] != 1:
            found[FRONT] = state[3]
        if state[4] != 2:
            found[side_of(state)] = state[3]
    elif kind in ("and", "or") and state[3] and state[4]:
        bits = (state[3] - 1, state[4] - 1)
        found[FRONT] = 8 + (min(bits) if kind == "and" else max(bits))
    elif kind == "reader" and state[3] != 4 and state[5] != 1:
        found[FRONT] = state[6]
    return {(state[1] + turn) % 4: sym for turn, sym in found.items() if sym}


def gift(giver, way, taker):
    """The symbol that a cell gives to its neighbour in a direction, and the index where it goes."""
    sym = outlets(giver).get(way, 0)
    for index, turns in inlets(taker):
        for turn in turns:
            if sym and taker[index] == 0 and (taker[1] + turn) % 4 == (way + 2) % 4:
                return sym, index
    return 0, None


def model_next(state, around):
    kind = kind_of(state)
    if kind == "ground":
        return model_ground(around)
    if kind == "fade":
        return None
    if kind == "regrow":
        return ("arm", state[1], 1, 0, 0)
    if kind == "stretch":
        return ("arm", state[1], 0, 0, 0)
    if kind == "retreat":
        if state[3] > 1:
            return ("head", state[1], 2, state[2], state[3] - 1)
        return ("head", state[1], 0, 0, 0)
    if kind == "arm":
        return model_arm(state, around)
    if kind == "head":
        return model_head(state, around)
    if kind == "port":
        return model_port(state, around)
    return model_net(state, around)


def model_net(state, around):
    given = [way for way in range(4) if gift(state, way, around[way])[0]]
    taken = {}
    for turn in (BACK, LEFT_HAND, RIGHT_HAND):
        way = (state[1] + turn) % 4
        sym, index = gift(around[way], (way + 2) % 4, state)
        if sym and index not in taken:
            taken[index] = sym
    front = state[1] in given
    items = list(state)
    kind = state[0]
    if kind == "reader":
        return model_reader(state, around, front, taken.get(6, 0))
    if kind == "fork":
        return model_fork(state, front, (state[1] + side_of(state)) % 4 in given, taken.get(3, 0))
    if kind in ("and", "or"):
        if front:
            items[3] = items[4] = 0
        for index, sym in taken.items():
            items[index] = 1 if sym == 8 else 2
        return tuple(items)
    if front:
        items[3 if kind == "cross" else len(items) - 1] = 0
    if kind == "cross" and (state[1] + side_of(state)) % 4 in given:
        items[4] = 0
    for index, sym in taken.items():
        items[index] = (9 if sym == 8 else 8) if kind == "not" else sym
        if kind == "join" and sym == 7 and state[3] == 0:
            items[3] = 1
    return tuple(items)


def sent_twice(sym, sent, first, second):
    """The symbol and sent of a cell that gives twice."""
    done = {1: first or sent == 1, 2: second or sent == 2}
    if done[1] and done[2]:
        return (0, 0)
    return (sym, 1 if done[1] else 2 if done[2] else 0)


def model_fork(state, front, side, taken):
    kind, way, hand, sym, sent = state
    if sym == 0:
        return (kind, way, hand, taken, 0)
    return (kind, way, hand) + sent_twice(sym, sent, front, side)


# [1.12]: for phase and symbol, the new phase and whether there is to be a copy.
READING = {
    0: {7: (1, False), "other": (0, False)},
    1: {6: (2, False), "other": (1, False)},
    2: {4: (5, True), 5: (6, True), "other": (2, True)},
    5: {6: (3, True), "other": (5, False)},
    3: {6: (4, False), "other": (3, True)},
    6: {6: (4, False), "other": (6, False)},
}


def is_copy(reader, root):
    """Whether a reader gives a copy in this step to the neighbour at its side."""
    away = (reader[1] + side_of(reader)) % 4
    if kind_of(root) != "arm" or root[1] != away or root[2] != 1 or root[4] != 0:
        return False
    return reader[6] != 0 and reader[3] != 4 and reader[5] != 2 and reader[4] != 0


def model_reader(state, around, front, taken):
    kind, way, side, phase, ask, sent, sym = state
    away = (way + side_of(state)) % 4
    beside = around[away]
    copy = is_copy(state, beside)
    if copy and ask == 1:
        ask = 0
    if kind_of(beside) == "arm" and beside[1] == away and beside[2] == 1 and beside[3]:
        ask = beside[3]
    regrow = beside == ("regrow", away)
    if regrow:
        ask = 1
        phase = {2: 6, 5: 6}.get(phase, phase)
    if taken:
        row = READING[phase]
        phase, wanted = row.get(taken, row["other"])
        sym, sent = taken, 0 if wanted else 2
    elif sym and phase != 4:
        sym, sent = sent_twice(sym, sent, front, copy or regrow)
    return (kind, way, side, phase, ask, sent, sym)


def coming(state, around, kind, turns):
    """The neighbours of a kind that point into a cell, in the order of the turns."""
    found = []
    for turn in turns:
        way = (state[1] + turn) % 4
        if kind_of(around[way]) == kind and (around[way][1] + 2) % 4 == way:
            found.append(around[way])
    return found


def from_arms(state, around, turns):
    held = [arm[4] for arm in coming(state, around, "arm", turns) if arm[4]]
    return held[0] if held else 0


def model_arm(state, around):
    kind, way, root, ask, sym = state
    front = around[way]
    what = kind_of(front)
    facing = what in ("arm", "head", "port") and (front[1] + 2) % 4 == way
    if what == "fade":
        return ("regrow", way) if root else ("fade",)
    if not root and what == "head" and front[2] == 2 and front[3] > 23:
        return ("retreat", way, front[3], front[4])
    ask = 0
    if what == "head" and front[2] == 0:
        ask = 1
    if what == "port" and front[2] == 0:
        ask = 2
    if what == "arm" and not facing:
        ask = front[3]
    if sym:
        gone = what == "head" and front[2] == 1
        gone = gone or what == "port" and front[2:] == (1, 0)
        gone = gone or what == "arm" and front[2] == 0 and front[4] == 0 and not facing
        return (kind, way, root, ask, 0 if gone else sym)
    if not root:
        return (kind, way, root, ask, from_arms(state, around, (BACK, LEFT_HAND, RIGHT_HAND)))
    behind = around[(way + 2) % 4]
    if kind_of(behind) == "reader" and (behind[1] + side_of(behind)) % 4 == way:
        return (kind, way, root, ask, behind[6] if is_copy(behind, state) else 0)
    return (kind, way, root, ask, 0)


def model_head(state, around):
    kind, way, phase, sym, count = state
    if phase == 0:
        return (kind, way, 1, sym, count)
    if phase == 1:
        return model_command(state, from_arms(state, around, (BACK, LEFT_HAND, RIGHT_HAND, FRONT)))
    if sym == 3:
        return ("fade",) if around[way] else ("stretch", way, count)
    if coming(state, around, "retreat", range(4)):
        return model_written(sym - 24)
    if [arm for arm in coming(state, around, "arm", range(4)) if arm[2] == 1]:
        return (kind, way, 0, 0, 0)
    return state


def model_command(state, sym):
    kind, way, phase, _, count = state
    if sym == 0:
        return state
    if 8 <= sym <= 23:
        return (kind, way, 0, 0, min(255, 16 * count + sym - 8))
    if sym == 3 or sym > 23:
        return (kind, way, 2, sym, count or 1)
    if sym == 4:
        return ("port", way, 0, 0)
    if sym == 5:
        return ("fade",)
    return (kind, (way + {1: 1, 2: 3}.get(sym, 0)) % 4, 0, 0, 0)


def model_port(state, around):
    kind, way, phase, sym = state
    if phase == 0:
        return (kind, way, 1, 0)
    if sym == 0:
        return (kind, way, 1, from_arms(state, around, (BACK, LEFT_HAND, RIGHT_HAND)))
    if gift(state, way, around[way])[0] == 0:
        return state
    return ("fade",) if sym == 7 else (kind, way, 1, 0)


def model_ground(around):
    north = (None, 0)
    found = coming(north, around, "stretch", range(4)) + coming(north, around, "regrow", range(4))
    if len(found) != 1:
        return None
    kind, way, *count = found[0]
    if kind == "regrow":
        return ("head", way, 1, 0, 0)
    if count[0] == 1:
        return ("head", way, 0, 0, 0)
    return ("head", way, 2, 3, count[0] - 1)


def written_table():
    """The written states in the order of their numbers, from the table in [1.21]."""
    states = [None]
    states += [("wire", way, 0) for way in range(4)]
    states += [("wire", way, 8 + bit) for way in range(4) for bit in range(2)]
    states += [("not", way, 0) for way in range(4)]
    for kind in ("fork", "cross", "and", "or", "join"):
        states += [(kind, way, side, 0, 0) for way in range(4) for side in range(2)]
    states += [("reader", way, side, 0, 1, 0, 0) for way in range(4) for side in range(2)]
    states += [("arm", way, 1, 0, 0) for way in range(4)]
    states += [("head", way, 1, 0, 0) for way in range(4)]
    return states


def model_written(i):
    return written_table()[i]


def model_step(pattern):
    """A step of a whole pattern, by the model."""
    after = {}
    for x, y in list(pattern):
        for px, py in ((x, y), (x + 1, y), (x, y - 1), (x - 1, y), (x, y + 1)):
            around = [pattern.get((px + dx, py + dy)) for dx, dy in ((1, 0), (0, -1), (-1, 0), (0, 1))]
            state = model_next(pattern.get((px, py)), around)
            if state is not None:
                after[(px, py)] = state
    return after
