"""The symbols, and the states of a cell."""

from ramet.errors import NotWritten

LEFT = 1
RIGHT = 2
FORTH = 3
PORT = 4
STOP = 5
START = 6
END = 7
DIGIT = 8
ZERO = 8
ONE = 9
WRITE = 24

# The greatest value of each item behind the kind; the least one is 0.
HIGHEST = {
    "wire": (3, 96),
    "not": (3, 96),
    "fork": (3, 1, 96, 2),
    "cross": (3, 1, 96, 96),
    "and": (3, 1, 2, 2),
    "or": (3, 1, 2, 2),
    "join": (3, 1, 1, 96),
    "reader": (3, 1, 6, 2, 2, 96),
    "arm": (3, 1, 2, 96),
    "head": (3, 2, 96, 255),
    "stretch": (3, 255),
    "retreat": (3, 96, 255),
    "port": (3, 1, 96),
    "regrow": (3,),
    "fade": (),
}

MOST_WRITTEN = 72

# A head counts no further.
MOST_COUNT = 255

# Ground, with the number 0, is not in the table. Each entry has the first of its numbers, the kind,
# and what may stand behind the direction: for each direction in turn, these endings are numbered.
WRITTEN = (
    (1, "wire", ((0,),)),
    (5, "wire", ((8,), (9,))),
    (13, "not", ((0,),)),
    (17, "fork", ((0, 0, 0), (1, 0, 0))),
    (25, "cross", ((0, 0, 0), (1, 0, 0))),
    (33, "and", ((0, 0, 0), (1, 0, 0))),
    (41, "or", ((0, 0, 0), (1, 0, 0))),
    (49, "join", ((0, 0, 0), (1, 0, 0))),
    (57, "reader", ((0, 0, 1, 0, 0), (1, 0, 1, 0, 0))),
    (65, "arm", ((1, 0, 0),)),
    (69, "head", ((1, 0, 0),)),
)


def is_integer(value):
    """Tell whether a value is an integer; True and False are none."""
    return isinstance(value, int) and not isinstance(value, bool)


def is_between(value, least, most):
    """Tell whether a value is an integer from least to most."""
    return is_integer(value) and least <= value <= most


def is_state(value):
    """Tell whether a value is the state of a cell."""
    if value is None:
        return True
    if not isinstance(value, tuple) or len(value) == 0 or not isinstance(value[0], str):
        return False
    highest = HIGHEST.get(value[0])
    if highest is None or len(value) != len(highest) + 1:
        return False
    for item, most in zip(value[1:], highest):
        if not is_between(item, 0, most):
            return False
    return _items_agree(value)


def _items_agree(state):
    """Tell whether the items of a state, each in its own bounds, go together."""
    kind = state[0]
    if kind == "fork":
        return state[3] != 0 or state[4] == 0
    if kind == "reader":
        return _reader_agrees(state)
    if kind == "head":
        return _head_agrees(state)
    if kind == "stretch":
        return state[2] >= 1
    if kind == "retreat":
        return state[2] >= WRITE and state[3] >= 1
    if kind == "port":
        return state[2] == 1 or state[3] == 0
    return True


def _reader_agrees(state):
    phase, sent, sym = state[3], state[5], state[6]
    if phase == 4:
        return sym == START and sent == 2
    return sym != 0 or sent == 0


def _head_agrees(state):
    phase, sym, count = state[2], state[3], state[4]
    if phase != 2:
        return sym == 0
    return count >= 1 and (sym == FORTH or sym >= WRITE)


def written_state(i):
    """Return the written state with the number i."""
    if i < 0 or i > MOST_WRITTEN:
        raise NotWritten(f"no written state has the number {i}")
    for first, kind, endings in reversed(WRITTEN):
        if i >= first:
            many = len(endings)
            return (kind, (i - first) // many) + endings[(i - first) % many]
    return None


def written_number(state):
    """Return the number of a written state."""
    if state is None:
        return 0
    for first, kind, endings in WRITTEN:
        if state[0] == kind and state[2:] in endings:
            return first + len(endings) * state[1] + endings.index(state[2:])
    raise NotWritten(f"{state} is not a written state")


def turned(state, quarters):
    """Return a state with its direction turned to the left by a number of quarters."""
    if state is None or state[0] == "fade":
        return state
    return (state[0], (state[1] + quarters) % 4) + state[2:]
