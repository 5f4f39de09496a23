"""Places, and the directions between them."""

NORTH = 1
SOUTH = 3

# How far x and y change in the directions 0 to 3.
STEPS = ((1, 0), (0, -1), (-1, 0), (0, 1))


def next_place(place, way):
    """Return the neighbour of a place in a direction."""
    dx, dy = STEPS[way]
    return (place[0] + dx, place[1] + dy)


def by_rows(places):
    """Return the list of some places in ascending order of (y, x)."""
    return sorted(places, key=_row_and_column)


def _row_and_column(place):
    return (place[1], place[0])
