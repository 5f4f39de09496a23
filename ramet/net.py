"""Nets: their nodes, and what these hand on and when, told without running the net."""

from ramet.errors import NotNet, TwoGivers
from ramet.flow import opposite, ready, side_way
from ramet.kinds import ONE, ZERO
from ramet.places import by_rows, next_place
from ramet.transfers import Transfers

NET_KINDS = ("wire", "not", "fork", "cross", "and", "or")

# The symbols that stand for what an and or an or notes of a symbol.
VALUES = (0, ZERO, ONE)

MOST_HANDED = 80


def nodes(net):
    """Return the nodes of a net, in order, as tuples (place, channel, sources, targets, held)."""
    for state in net.values():
        if state[0] not in NET_KINDS:
            raise NotNet(f"{state} is not a state of a net")
    spots = [(place, channel) for place in by_rows(net) for channel in _channels(net[place])]
    numbers = {spot: number for number, spot in enumerate(spots)}
    targets = [_targets(net, numbers, place, channel) for place, channel in spots]
    sources = _sources([len(_held(net[place], channel)) for place, channel in spots], targets)
    result = []
    for number, (place, channel) in enumerate(spots):
        held = [sym for sym in _held(net[place], channel) if sym != 0]
        result.append((place, channel, sources[number], targets[number], len(held)))
    return result


def _channels(state):
    """Return the channels of a cell."""
    return (0, 1) if state[0] == "cross" else (0,)


def _held(state, channel):
    """Return the symbols that the inlets of a node hold, 0 where there is none."""
    kind = state[0]
    if kind == "and" or kind == "or":
        return (VALUES[state[3]], VALUES[state[4]])
    if kind == "cross":
        return (state[3 + channel],)
    return (state[3],) if kind == "fork" else (state[2],)


def _outlets(state, channel):
    """Return the directions of the outlets of a node."""
    if state[0] == "fork":
        return (state[1], side_way(state))
    return (side_way(state),) if channel == 1 else (state[1],)


def _targets(net, numbers, place, channel):
    """Return, for each outlet of a node, the number of the node and the inlet to which it leads."""
    result = []
    for way in _outlets(net[place], channel):
        there = next_place(place, way)
        target = _entry(net.get(there), opposite(way))
        result.append((-1, 0) if target is None else (numbers[there, target[0]], target[1]))
    return tuple(result)


def _entry(state, way):
    """Return the channel and the inlet at which a symbol from a direction would come in, or None."""
    if state is None or not ready(_emptied(state), way):
        return None
    second = 0 if way == opposite(state[1]) else 1
    if state[0] == "cross":
        return (second, 0)
    return (0, second) if state[0] == "and" or state[0] == "or" else (0, 0)


def _emptied(state):
    """Return the state of a cell of a net without its symbols."""
    if state[0] == "wire" or state[0] == "not":
        return (state[0], state[1], 0)
    return state[:3] + (0, 0)


def _sources(sizes, targets):
    """Return, for each node, the tuple of the nodes that lead to its inlets; -1 stands for none."""
    sources = [[-1] * size for size in sizes]
    for number, row in enumerate(targets):
        for target, inlet in row:
            if target >= 0:
                if sources[target][inlet] >= 0:
                    raise TwoGivers("two outlets lead to one inlet")
                sources[target][inlet] = number
    return [tuple(row) for row in sources]


def handed(net, most):
    """Return, for each node, the steps at which it hands on its first symbols, and these symbols."""
    stations = _stations(net, most)
    return [(tuple(station.left[:most]), tuple(station.passed[:most])) for station in stations]


def last_step(net):
    """Return the step of the last transfer, 0 if there is none, -1 if a node hands on too many."""
    last = 0
    for station in _stations(net, MOST_HANDED + 1):
        if len(station.left) > MOST_HANDED:
            return -1
        last = max([last] + [step for steps in station.given for step in steps])
    return last


def _stations(net, most):
    """Return the stations of a net with at least the first `most` symbols that each hands on."""
    transfers = Transfers()
    sent_before = 0
    for place, channel, sources, targets, _ in nodes(net):
        state = net[place]
        sent = state[4] if state[0] == "fork" else 0
        if sent != 0:
            sent_before += 1
        transfers.put_in(state[0], sources, targets, _held(state, channel), sent)
    # What a symbol waits for has, at its own node, no greater number, except that each fork that
    # has sent to one side at the beginning is one symbol ahead there. So this finds enough.
    transfers.find_first(most + sent_before)
    return transfers.stations
