"""The arm and what it works with: its cells, the head, the port, and the ground that it grows over."""

from ramet.flow import is_taken, opposite
from ramet.kinds import DIGIT, END, FORTH, LEFT, MOST_COUNT, PORT, RIGHT, STOP, WRITE, written_state
from ramet.reader import copy_given


def _points(state, kind, way):
    """Tell whether the neighbour in a direction is of a kind and points into the cell."""
    return state is not None and state[0] == kind and state[1] == opposite(way)


def _arm_symbol(around, ways):
    """Return the symbol of the first arm, among some neighbours, that points here and holds one."""
    for way in ways:
        state = around[way]
        if _points(state, "arm", way) and state[4] != 0:
            return state[4]
    return 0


def next_arm(state, around):
    """Return what becomes of a cell of an arm."""
    way, root, ask, sym = state[1:]
    front = around[way]
    if front == ("fade",):
        return ("regrow", way) if root == 1 else ("fade",)
    if root == 0 and _writes(front):
        return ("retreat", way, front[3], front[4])
    ask = _ask_of(front, way)
    if sym != 0:
        sym = 0 if _accepts(front, way) else sym
    elif root == 1:
        sym = _copy_for(state, around[opposite(way)])
    else:
        sym = _arm_symbol(around, (opposite(way), (way + 1) % 4, (way + 3) % 4))
    return ("arm", way, root, ask, sym)


def _writes(state):
    """Tell whether a state is a head that is about to write."""
    return state is not None and state[0] == "head" and state[2] == 2 and state[3] >= WRITE


def _ask_of(front, way):
    """Return what an arm asks for, by the cell at its front."""
    if front is None:
        return 0
    kind = front[0]
    if kind == "head":
        return 1 if front[2] == 0 else 0
    if kind == "port":
        return 2 if front[2] == 0 else 0
    if kind == "arm" and front[1] != opposite(way):
        return front[3]
    return 0


def _accepts(front, way):
    """Tell whether the symbol of an arm with this direction is gone to the cell at its front."""
    if front is None:
        return False
    kind = front[0]
    if kind == "arm":
        return front[2] == 0 and front[4] == 0 and front[1] != opposite(way)
    if kind == "head":
        return front[2] == 1
    return kind == "port" and front[2] == 1 and front[3] == 0


def _copy_for(root, back):
    """Return the symbol that a root takes from the reader whose root it is, 0 if none."""
    if back is None or back[0] != "reader":
        return 0
    # This is 0 unless the root points away from the reader on the reader's side.
    return copy_given(back, root)


def next_head(state, around):
    """Return what becomes of a head."""
    way, phase, sym, count = state[1:]
    if phase == 0:
        return ("head", way, 1, sym, count)
    if phase == 1:
        sym = _arm_symbol(around, (opposite(way), (way + 1) % 4, (way + 3) % 4, way))
        return _obeyed(way, count, sym) if sym != 0 else state
    if sym == FORTH:
        return ("stretch", way, count) if around[way] is None else ("fade",)
    return _written(state, around)


def _obeyed(way, count, sym):
    """Return what becomes of a head in phase 1 that takes a symbol."""
    if sym == PORT:
        return ("port", way, 0, 0)
    if sym == STOP:
        return ("fade",)
    if sym == FORTH or sym >= WRITE:
        return ("head", way, 2, sym, max(count, 1))
    if sym >= DIGIT:
        return ("head", way, 0, 0, min(MOST_COUNT, 16 * count + sym - DIGIT))
    if sym == LEFT:
        way = (way + 1) % 4
    elif sym == RIGHT:
        way = (way + 3) % 4
    return ("head", way, 0, 0, 0)


def _written(state, around):
    """Return what becomes of a head that is about to write."""
    for way in range(4):
        if _points(around[way], "retreat", way):
            return written_state(state[3] - WRITE)
    for way in range(4):
        if _points(around[way], "arm", way) and around[way][2] == 1:
            return ("head", state[1], 0, 0, 0)
    return state


def next_retreat(state):
    """Return what becomes of a retreat."""
    way, sym, count = state[1:]
    if count == 1:
        return ("head", way, 0, 0, 0)
    return ("head", way, 2, sym, count - 1)


def next_ground(around):
    """Return what becomes of ground."""
    comers = []
    for way in range(4):
        state = around[way]
        if _points(state, "stretch", way) or _points(state, "regrow", way):
            comers.append(state)
    if len(comers) != 1:
        return None
    return _first_head(comers[0])


def _first_head(comer):
    """Return the head that grows out of a stretch or a regrow."""
    if comer[0] == "regrow":
        return ("head", comer[1], 1, 0, 0)
    if comer[2] == 1:
        return ("head", comer[1], 0, 0, 0)
    return ("head", comer[1], 2, FORTH, comer[2] - 1)


def next_port(state, around):
    """Return what becomes of a port."""
    way, phase, sym = state[1:]
    if phase == 0:
        return ("port", way, 1, 0)
    if sym == 0:
        return ("port", way, 1, _arm_symbol(around, (opposite(way), (way + 1) % 4, (way + 3) % 4)))
    if not is_taken(around, way):
        return state
    return ("fade",) if sym == END else ("port", way, 1, 0)
