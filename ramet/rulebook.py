"""The rule of the yard as a table that fills itself: states are numbers, results are remembered."""

from ramet.flow import opposite
from ramet.yard import next_state

MOST_KNOWN = 200000


def seen(state, way):
    """Return a state that looks the same to the neighbour in a direction.

    A wire or an arm shows its symbol only to its front; the other neighbours can only tell
    whether it holds one. So for them one symbol stands for all, which keeps the table small.
    """
    if state is None or (state[0] != "wire" and state[0] != "arm"):
        return state
    if state[1] == way or state[-1] == 0:
        return state
    return state[:-1] + (1,)


class Rulebook:
    """Numbers for states, and what becomes of a cell by the numbers of it and its neighbours.

    Ground has the number 0. `views` has a list for each direction: by the number of a state
    that lies there, the number of what is seen of it. `known` has what has been found out,
    by a cell's number and those of what it sees in the directions 0 to 3.
    """

    def __init__(self):
        self._states = []
        self._numbers = {}
        self.views = ([], [], [], [])
        self.known = {}
        self.number(None)

    def state(self, number):
        """Return the state with a number."""
        return self._states[number]

    def number(self, state):
        """Return the number of a state; a state that is new gets one."""
        number = self._numbers.get(state, -1)
        if number >= 0:
            return number
        number = len(self._states)
        self._numbers[state] = number
        self._states.append(state)
        for way in range(4):
            self.views[way].append(number)
        # What is seen of a state may be a new state in its turn, but that one is seen as it is.
        for way in range(4):
            self.views[way][number] = self.number(seen(state, opposite(way)))
        return number

    def learn(self, key):
        """Find out what becomes of a cell, remember it, and return its number."""
        if len(self.known) >= MOST_KNOWN:
            self.known.clear()
        around = [self._states[number] for number in key[1:]]
        result = self.number(next_state(self._states[key[0]], around))
        self.known[key] = result
        return result
