"""Patterns, and their steps by the definition."""

from ramet.kinds import is_integer, is_state, turned
from ramet.places import by_rows
from ramet.yard import next_state


def is_pattern(value):
    """Tell whether a value is a dict from places to states other than ground."""
    if not isinstance(value, dict):
        return False
    for place, state in value.items():
        if not _is_place(place) or state is None or not is_state(state):
            return False
    return True


def _is_place(value):
    if not isinstance(value, tuple) or len(value) != 2:
        return False
    return is_integer(value[0]) and is_integer(value[1])


def moved(pattern, dx, dy):
    """Return a pattern moved to the east by dx and to the south by dy."""
    return {(x + dx, y + dy): state for (x, y), state in pattern.items()}


def turned_pattern(pattern, quarters):
    """Return a pattern turned to the left by a number of quarters."""
    result = {place: pattern[place] for place in pattern}
    for _ in range(quarters):
        result = {(y, -x): turned(state, 1) for (x, y), state in result.items()}
    return result


def union(first, second):
    """Return the cells of two patterns; where both have one, that of the second."""
    result = {place: first[place] for place in first}
    for place in second:
        result[place] = second[place]
    return result


def difference(first, second):
    """Return the places at which two patterns differ, in ascending order of (y, x)."""
    places = [place for place in first if first[place] != second.get(place)]
    places.extend([place for place in second if place not in first])
    return by_rows(places)


def box(pattern):
    """Return the least and the greatest coordinates of a pattern's places, or None."""
    if len(pattern) == 0:
        return None
    columns = [x for x, _ in pattern]
    rows = [y for _, y in pattern]
    return (min(columns), min(rows), max(columns), max(rows))


def cells(pattern):
    """Return the cells as tuples (x, y, state), in ascending order of (y, x)."""
    return [(x, y, pattern[x, y]) for x, y in by_rows(pattern)]


def from_cells(rows):
    """Return the pattern of tuples (x, y, state), of which the last one for a place counts."""
    states = {(x, y): state for x, y, state in rows}
    return {place: states[place] for place in states if states[place] is not None}


def step(pattern):
    """Return a pattern after one step."""
    after = {}
    for x, y in _places_to_look_at(pattern):
        around = [
            pattern.get((x + 1, y)),
            pattern.get((x, y - 1)),
            pattern.get((x - 1, y)),
            pattern.get((x, y + 1)),
        ]
        state = next_state(pattern.get((x, y)), around)
        if state is not None:
            after[x, y] = state
    return after


def _places_to_look_at(pattern):
    """Return a dict whose keys are the places of a pattern and their neighbours."""
    places = {place: True for place in pattern}
    for x, y in pattern:
        places[x + 1, y] = True
        places[x, y - 1] = True
        places[x - 1, y] = True
        places[x, y + 1] = True
    return places


def run(pattern, steps):
    """Return a pattern after a number of steps."""
    now = {place: pattern[place] for place in pattern}
    for _ in range(steps):
        after = step(now)
        # A still pattern stays as it is, however many steps follow.
        if after == now:
            return now
        now = after
    return now


def is_still(pattern):
    """Tell whether a pattern stays as it is in a step."""
    return step(pattern) == pattern


def rest(pattern, most):
    """Return the least number of steps, at most `most`, after which a pattern is still, or -1."""
    now = pattern
    for taken in range(most + 1):
        after = step(now)
        if after == now:
            return taken
        now = after
    return -1
