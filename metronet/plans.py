"""Streams, and plans that give each of their frames a window on each line."""

from metronet.nets import ports_of


class Stream:
    """A frame in each period, along a path."""

    def __init__(self, period, length, deadline, path):
        self.period = period
        self.length = length
        self.deadline = deadline
        self.path = list(path)

    def __eq__(self, other):
        return (
            isinstance(other, Stream)
            and self.period == other.period
            and self.length == other.length
            and self.deadline == other.deadline
            and self.path == other.path
        )


def window_of(entry, hop):
    """Return the window of an entry at a port of its path."""
    stream, offsets = entry
    return (offsets[hop], stream.length, stream.period)


def arrival_of(net, entry, hop):
    """Return the arrival of an entry at the node behind a port of its path."""
    stream, offsets = entry
    return offsets[hop] + travel_of(net, stream, hop)


def windows_at(plan, port):
    """Return the windows of all entries of a plan at a port, in the order of the entries."""
    windows = []
    for entry in plan:
        ports = ports_of(entry[0].path)
        if port in ports:
            windows.append(window_of(entry, ports.index(port)))
    return windows


def travel_of(net, stream, hop):
    """Return the ticks that a frame needs from its first tick at a port to the node behind it."""
    a, b = stream.path[hop], stream.path[hop + 1]
    ticks = stream.length + net.delay(a, b)
    return ticks + net.processing if net.kinds[b] == "switch" else ticks
