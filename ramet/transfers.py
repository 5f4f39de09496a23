"""When symbols move between the nodes of a net, found without running it."""

from ramet.flow import negated, result_of, value_of


class Station:
    """A node, and what is known of its symbols.

    `targets` has for each outlet the pair (number of the station, inlet) to which it leads, and
    `sources` for each inlet the number of the station that leads to it; -1 stands for none.
    By inlet, `came` has the steps at which its symbols came in, and `brought` these symbols; by
    outlet, `given` has the steps of its transfers. `left` has the steps at which symbols were
    handed on, and `passed` these symbols. What was so at the beginning has the step 0.
    """

    def __init__(self, kind, sources, targets, held, sent):
        self.kind = kind
        self.sources = sources
        self.targets = targets
        self.came = [[] if sym == 0 else [0] for sym in held]
        self.brought = [[] if sym == 0 else [sym] for sym in held]
        self.given = [[0] if sent == outlet + 1 else [] for outlet in range(len(targets))]
        self.left = []
        self.passed = []


class Transfers:
    """The transfers between stations, each found when those that it waits for are known."""

    def __init__(self):
        self.stations = []

    def put_in(self, kind, sources, targets, held, sent):
        """Add the next station: `held` has a symbol or 0 for each inlet, `sent` is that of a fork."""
        self.stations.append(Station(kind, sources, targets, held, sent))

    def find_first(self, most):
        """Find, for each outlet, its first transfers: `most`, or as many as ever happen."""
        waiting = list(range(len(self.stations)))
        while len(waiting) > 0:
            number = waiting.pop()
            station = self.stations[number]
            for outlet, (target, inlet) in enumerate(station.targets):
                if target >= 0 and len(station.given[outlet]) < most:
                    step = _next_step(station, outlet, self.stations[target], inlet)
                    if step > 0:
                        self._give(number, outlet, step)
                        # The target may have all that it needs now, and so may those that wait
                        # for this station to be empty.
                        waiting.append(target)
                        waiting.extend([source for source in station.sources if source >= 0])

    def _give(self, number, outlet, step):
        """Note the next transfer by an outlet of a station."""
        station = self.stations[number]
        target_number, inlet = station.targets[outlet]
        target = self.stations[target_number]
        k = len(station.given[outlet])
        sym = _symbol(station, k)
        station.given[outlet].append(step)
        target.came[inlet].append(step)
        target.brought[inlet].append(negated(sym) if target.kind == "not" else sym)
        if all([len(steps) > k for steps in station.given]):
            station.left.append(max([steps[k] for steps in station.given]))
            station.passed.append(sym)


def _next_step(station, outlet, target, inlet):
    """Return the step of the next transfer by an outlet, 0 if something it waits for is not known."""
    k = len(station.given[outlet])
    step = 0
    for steps in station.came:
        if len(steps) <= k:
            return 0
        step = max(step, steps[k])
    before = len(target.came[inlet])
    if before > 0:
        if len(target.left) < before:
            return 0
        step = max(step, target.left[before - 1])
    return step + 1


def _symbol(station, k):
    """Return the symbol number k, counted from 0, that a station gives."""
    if station.kind == "and" or station.kind == "or":
        one, two = [value_of(brought[k]) for brought in station.brought]
        return result_of(station.kind, one, two)
    return station.brought[0][k]
