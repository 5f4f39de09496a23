"""The engine: it runs patterns fast, because it looks only at cells that may change."""

from ramet.rulebook import Rulebook


class Engine:
    """A pattern that runs.

    Places that have been looked at are cells, numbered in the order in which they came into
    view. The awake cells are those that may change in the next step.
    """

    def __init__(self, pattern):
        self._book = Rulebook()
        self._cells = {}
        self._places = []
        self._now = []
        self._near = []
        self._awake = {}
        self._due = None
        self._time = 0
        self._changes = 0
        for place in pattern:
            self.put(place, pattern[place])

    def advance(self, steps):
        """Take a number of steps."""
        left = steps
        while left > 0:
            due = self._changes_due()
            if len(due) == 0:
                self._time += left
                return
            self._carry_out(due)
            self._time += 1
            left -= 1

    def put(self, place, state):
        """Set the state at a place."""
        cell = self._cell(place)
        self._now[cell] = self._book.number(state)
        self._wake_around(cell)
        self._due = None

    def time(self):
        """Return the number of steps taken."""
        return self._time

    def changes(self):
        """Return the number of changes of cells in all steps so far."""
        return self._changes

    def settle(self, most):
        """Advance until the pattern is still; return the number of steps, or -1 after `most`."""
        taken = 0
        while not self.is_idle():
            if taken >= most:
                return -1
            self.advance(1)
            taken += 1
        return taken

    def pattern(self):
        """Return the pattern at this time."""
        result = {}
        for place, cell in self._cells.items():
            if self._now[cell] != 0:
                result[place] = self._book.state(self._now[cell])
        return result

    def at(self, place):
        """Return the state at a place."""
        cell = self._cells.get(place)
        if cell is None:
            return None
        return self._book.state(self._now[cell])

    def is_idle(self):
        """Tell whether the pattern is still."""
        return len(self._changes_due()) == 0

    def _cell(self, place):
        """Return the number of the cell at a place, which is ground if it comes into view now."""
        cell = self._cells.get(place)
        if cell is None:
            cell = len(self._places)
            self._cells[place] = cell
            self._places.append(place)
            self._now.append(0)
            self._near.append(None)
        return cell

    def _wake(self, cell):
        """Note that a cell may change; so the cells around it must be in view."""
        self._awake[cell] = True
        if self._near[cell] is None:
            x, y = self._places[cell]
            self._near[cell] = (
                self._cell((x + 1, y)),
                self._cell((x, y - 1)),
                self._cell((x - 1, y)),
                self._cell((x, y + 1)),
            )

    def _wake_around(self, cell):
        """Note that a cell and its neighbours may change."""
        self._wake(cell)
        around = self._near[cell]
        for near in around:
            self._wake(near)

    def _changes_due(self):
        """Return the pairs (cell, number of its new state) of the next step."""
        if self._due is None:
            self._due = self._find_changes()
        return self._due

    def _find_changes(self):
        now, near, known = self._now, self._near, self._book.known
        views_east, views_north, views_west, views_south = self._book.views
        due = []
        for cell in self._awake:
            east, north, west, south = near[cell]
            key = (
                now[cell],
                views_east[now[east]],
                views_north[now[north]],
                views_west[now[west]],
                views_south[now[south]],
            )
            number = known.get(key, -1)
            if number < 0:
                number = self._book.learn(key)
            if number != now[cell]:
                due.append((cell, number))
        return due

    def _carry_out(self, due):
        """Make the changes of a step; the changed cells and their neighbours are awake then."""
        self._awake = {}
        for cell, number in due:
            self._now[cell] = number
            self._wake_around(cell)
        self._changes += len(due)
        self._due = None
