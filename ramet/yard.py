"""The rule of the yard: what becomes of a cell in a step."""

from ramet.flow import next_cross, next_fork, next_gate, next_join, next_wire
from ramet.hand import next_arm, next_ground, next_head, next_port, next_retreat
from ramet.reader import next_reader


def next_state(state, around):
    """Return what a cell becomes; around has the neighbours' states in the directions 0 to 3."""
    if state is None:
        return next_ground(around)
    kind = state[0]
    if kind == "wire" or kind == "not":
        return next_wire(state, around)
    if kind == "fork":
        return next_fork(state, around)
    if kind == "cross":
        return next_cross(state, around)
    if kind == "and" or kind == "or":
        return next_gate(state, around)
    if kind == "join":
        return next_join(state, around)
    if kind == "reader":
        return next_reader(state, around)
    return _next_of_arm(state, around)


def _next_of_arm(state, around):
    """Return what becomes of a cell that is neither ground nor a net cell."""
    kind = state[0]
    if kind == "arm":
        return next_arm(state, around)
    if kind == "head":
        return next_head(state, around)
    if kind == "stretch":
        return ("arm", state[1], 0, 0, 0)
    if kind == "retreat":
        return next_retreat(state)
    if kind == "port":
        return next_port(state, around)
    if kind == "regrow":
        return ("arm", state[1], 1, 0, 0)
    return None
