"""What a machine meets on its way."""

from ramet.errors import Loaded
from ramet.kin import apart
from ramet.places import next_place


def cells_near(cells, room):
    """Return the cells whose places are not apart from a room."""
    return {(x, y): state for (x, y), state in cells.items() if not apart((x, y, x, y), room)}


def halt_among(member, things):
    """Return the index of the FORTH at which a machine meets one of the things near it, or 0."""
    if len(things) == 0:
        return 0
    _check_symbols(member, things)
    for index, visited in enumerate(member.breed.visits):
        for spot in visited:
            if member.in_yard(spot) in things:
                # The first command stands behind START.
                return index + 1
    return 0


def _check_symbols(member, things):
    """Refuse symbols that could get from what is written to the things, or from these to the road."""
    for state in member.breed.built.values():
        if _holds_symbol(state):
            raise Loaded("the machine writes a symbol near other things")
    road = {member.in_yard(spot): True for spot in member.breed.road}
    for place in things:
        state = things[place]
        if _holds_symbol(state) or state[0] == "arm":
            front = next_place(place, state[1])
            if front in road and front not in things:
                raise Loaded(f"the cell at {place} points to the road of a machine")


def _holds_symbol(state):
    """Tell whether a state is a wire or a join that holds a symbol."""
    return state[0] in ("wire", "join") and state[-1] != 0
