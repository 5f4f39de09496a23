"""The reader: it passes symbols on, and gives copies of some of them to an arm at its side."""

from ramet.flow import is_taken, kept, offered, opposite, side_way
from ramet.kinds import END, PORT, START, STOP

PARKED = 4


def is_root(state, way):
    """Tell whether a state is an arm with root 1 that points in a direction."""
    return state is not None and state[0] == "arm" and state[1] == way and state[2] == 1


def copy_given(reader, beside):
    """Return the symbol that a reader gives to the cell at its side as a copy, 0 if none."""
    if not is_root(beside, side_way(reader)) or beside[4] != 0:
        return 0
    phase, ask, sent, sym = reader[3:]
    if phase == PARKED or ask == 0 or sent == 2:
        return 0
    return sym


def next_reader(state, around):
    """Return what becomes of a reader."""
    way, side, phase, ask, sent, sym = state[1:]
    away = side_way(state)
    beside = around[away]
    regrown = beside == ("regrow", away)
    copied = copy_given(state, beside) != 0
    # This comes first, so that a symbol taken in this step is already read in phase 6.
    if regrown and (phase == 2 or phase == 5):
        phase = 6
    if sym == 0:
        phase, sent, sym = _read(phase, offered(around, (opposite(way),)))
    elif phase != PARKED:
        front_done = sent == 1 or is_taken(around, way)
        sym, sent = kept(sym, front_done, sent == 2 or copied or regrown)
    ask = _next_ask(ask, beside, away, copied)
    return ("reader", way, side, phase, ask, sent, sym)


def _next_ask(ask, beside, away, copied):
    """Return a reader's ask after the step."""
    if beside == ("regrow", away):
        return 1
    if is_root(beside, away) and beside[3] != 0:
        return beside[3]
    return 0 if copied and ask == 1 else ask


def _read(phase, sym):
    """Return phase, sent and symbol of a reader that takes a symbol, or finds none (0)."""
    if sym == 0:
        return phase, 0, 0
    return _next_phase(phase, sym), 0 if _is_copied(phase, sym) else 2, sym


def _is_copied(phase, sym):
    """Tell whether there is to be a copy of a symbol that is taken in a phase."""
    # A child's ring begins with START: it is copied where phase 5 ends, not where phase 3 does.
    if phase == 5:
        return sym == START
    return phase == 2 or (phase == 3 and sym != START)


def _next_phase(phase, sym):
    if phase == 0:
        return 1 if sym == END else 0
    if phase == 1:
        return 2 if sym == START else 1
    if phase == 2:
        return _phase_of_command(sym)
    if sym != START:
        return phase
    return 3 if phase == 5 else PARKED


def _phase_of_command(sym):
    if sym == PORT:
        return 5
    return 6 if sym == STOP else 2
