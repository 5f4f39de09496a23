"""How symbols move between net cells: what is offered, who is ready, and what becomes of the cells."""

from ramet.kinds import END, ONE, ZERO


def opposite(way):
    """Return the direction opposite to a direction."""
    return (way + 2) % 4


def side_way(state):
    """Return the direction in which the side of a cell lies."""
    return (state[1] + 1 + 2 * state[2]) % 4


def offer(state, way):
    """Return the symbol that a cell offers in a direction, 0 if it offers none."""
    if state is None:
        return 0
    kind = state[0]
    if kind == "wire" or kind == "not" or kind == "join" or kind == "port":
        return state[-1] if way == state[1] else 0
    if kind == "and" or kind == "or":
        return result_of(kind, state[3], state[4]) if way == state[1] else 0
    if kind == "cross":
        return _cross_offer(state, way)
    if kind == "fork":
        return _fork_offer(state, way)
    if kind == "reader" and way == state[1] and state[3] != 4 and state[5] != 1:
        return state[6]
    return 0


def result_of(kind, one, two):
    """Return what an and or an or makes of its two values, 0 if one of them is missing."""
    if one == 0 or two == 0:
        return 0
    if kind == "and":
        return ONE if one == 2 and two == 2 else ZERO
    return ZERO if one == 1 and two == 1 else ONE


def _cross_offer(state, way):
    if way == state[1]:
        return state[3]
    return state[4] if way == side_way(state) else 0


def _fork_offer(state, way):
    sym, sent = state[3], state[4]
    if way == state[1]:
        return 0 if sent == 1 else sym
    if way == side_way(state):
        return 0 if sent == 2 else sym
    return 0


def ready(state, way):
    """Tell whether a cell is ready for a symbol from the neighbour in a direction."""
    if state is None:
        return False
    kind = state[0]
    if kind == "wire" or kind == "not":
        return state[2] == 0 and way != state[1]
    if kind == "fork":
        return state[3] == 0 and (way == opposite(state[1]) or way == opposite(side_way(state)))
    if kind == "reader":
        return state[6] == 0 and way == opposite(state[1])
    if kind == "join":
        return state[4] == 0 and way == join_source(state)
    if kind == "cross":
        return _has_empty(state, way, opposite(side_way(state)))
    if kind == "and" or kind == "or":
        return _has_empty(state, way, side_way(state))
    return False


def _has_empty(state, way, second_way):
    """Tell whether the place for a direction is empty: the first one is for the back."""
    if way == opposite(state[1]):
        return state[3] == 0
    return way == second_way and state[4] == 0


def join_source(state):
    """Return the direction from which a join takes in its present phase."""
    return side_way(state) if state[3] == 0 else opposite(state[1])


def is_taken(around, way):
    """Tell whether the neighbour in a direction takes what is offered to it."""
    return ready(around[way], opposite(way))


def offered(around, ways):
    """Return the symbol that the first of some neighbours to offer one offers, 0 if none does."""
    for way in ways:
        sym = offer(around[way], opposite(way))
        if sym != 0:
            return sym
    return 0


def kept(sym, first, second):
    """Return the symbol and what was sent of it, when it must be given twice."""
    if first and second:
        return 0, 0
    if first:
        return sym, 1
    return sym, 2 if second else 0


def next_wire(state, around):
    """Return what becomes of a wire or a not."""
    kind, way, sym = state
    if sym != 0:
        return (kind, way, 0) if is_taken(around, way) else state
    sym = offered(around, ((way + 2) % 4, (way + 1) % 4, (way + 3) % 4))
    if kind == "not" and sym != 0:
        sym = negated(sym)
    return (kind, way, sym)


def negated(sym):
    """Return what a not makes of a symbol that it takes."""
    return ONE if sym == ZERO else ZERO


def next_fork(state, around):
    """Return what becomes of a fork."""
    kind, way, side, sym, sent = state
    away = side_way(state)
    if sym == 0:
        sym = offered(around, (opposite(way), opposite(away)))
        return (kind, way, side, sym, 0)
    front_done = sent == 1 or is_taken(around, way)
    side_done = sent == 2 or is_taken(around, away)
    return (kind, way, side) + kept(sym, front_done, side_done)


def next_cross(state, around):
    """Return what becomes of a cross."""
    kind, way, side, sym, sym2 = state
    return (kind, way, side, _passed(sym, around, way), _passed(sym2, around, side_way(state)))


def _passed(sym, around, way):
    """Return what a place holds through which symbols go straight on in a direction."""
    if sym != 0:
        return 0 if is_taken(around, way) else sym
    return offered(around, (opposite(way),))


def next_gate(state, around):
    """Return what becomes of an and or an or."""
    kind, way, side, one, two = state
    if one != 0 and two != 0:
        return (kind, way, side, 0, 0) if is_taken(around, way) else state
    if one == 0:
        one = value_of(offered(around, (opposite(way),)))
    if two == 0:
        two = value_of(offered(around, (side_way(state),)))
    return (kind, way, side, one, two)


def value_of(sym):
    """Return what an and or an or notes of a symbol."""
    if sym == 0:
        return 0
    return 1 if sym == ZERO else 2


def next_join(state, around):
    """Return what becomes of a join."""
    kind, way, side, phase, sym = state
    if sym != 0:
        return (kind, way, side, phase, 0) if is_taken(around, way) else state
    sym = offered(around, (join_source(state),))
    if sym == END:
        phase = 1
    return (kind, way, side, phase, sym)
