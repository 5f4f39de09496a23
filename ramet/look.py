"""Harm: what the machines of a family have lost, and what is strange among their cells."""

from ramet.errors import NotQuiet
from ramet.space import box


def look(families, now, time):
    """Return a triple (number, lost, strange) for each machine that was harmed."""
    if not families.is_quiet(time):
        raise NotQuiet(f"the family is not quiet at the time {time}")
    harmed = []
    for row in families.machines():
        cells = families.cells_of(row[0])
        lost = {place: cells[place] for place in cells if now.get(place) != cells[place]}
        strange = _strange(cells, now)
        if len(lost) > 0 or len(strange) > 0:
            harmed.append((row[0], lost, strange))
    return harmed


def _strange(cells, now):
    """Return what lies in the box of a machine's cells, and is none of them."""
    x0, y0, x1, y1 = box(cells)
    found = {}
    for x, y in now:
        if x0 <= x <= x1 and y0 <= y <= y1 and now[x, y] != cells.get((x, y)):
            found[x, y] = now[x, y]
    return found
