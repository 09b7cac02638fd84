"""Simulation of a plan, tick by tick, with clocks that err and a line that is broken."""

from metronet.nets import ports_of
from metronet.plans import travel_of


class Run:
    """What a simulation gives: the deliveries, and the break or None."""

    def __init__(self, deliveries, fault):
        self.deliveries = deliveries
        self.fault = fault


def simulate(net, plan, errors, count, *, broken=None):
    """Return the Run of a plan with a clock error for each node, for `count` frames of each entry."""
    openings = openings_of(plan, errors, count)
    traffic = Traffic(net, plan, broken)
    # A frame that comes to a queue after its window is a break at that window, so there is no frame in a queue
    # or on its way to one behind the last window: all that is left then are frames on their way to a host.
    for tick in range(min(openings, default=0), max(openings, default=-1) + 1):
        fault = traffic.pass_tick(tick, openings.get(tick, []))
        if fault is not None:
            return Run(sorted([row for row in traffic.deliveries if row[0] <= tick]), fault)
    return Run(sorted(traffic.deliveries), None)


def openings_of(plan, errors, count):
    """Return for each tick the windows that open at it, in the order of the entries and hops.

    A window that opens for a frame is a tuple of the numbers of its entry, its hop and the frame.
    """
    openings = {}
    for index, (stream, offsets) in enumerate(plan):
        for hop, offset in enumerate(offsets):
            start = offset + errors[stream.path[hop]]
            for number in range(count):
                openings.setdefault(start + number * stream.period, []).append((index, hop, number))
    return openings


class Traffic:
    """The frames of a plan on their way. In a queue, a frame is named like the window that it waits for."""

    def __init__(self, net, plan, broken):
        self.net = net
        self.streams = [entry[0] for entry in plan]
        self.ports = [ports_of(stream.path) for stream in self.streams]
        self.broken_ports = [] if broken is None else [broken, (broken[1], broken[0])]
        self.deliveries = []
        # For each port: the tick from which on the last frame does not occupy it any more, and the queue.
        self.free_from = {}
        self.queues = {}
        # For each tick, the frames that reach a queue; and those that were lost, by entry and number.
        self.coming = {}
        self.lost = {}

    def pass_tick(self, tick, opening):
        """Take the steps of a tick, at which a list of windows opens; return the break, or None."""
        waiting = []
        for window in opening:
            if self.is_occupied(window, tick):
                return ("busy", tick, self.port_of(window))
            if window[1] == 0 or self.is_first(window):
                self.send(window, tick)
            elif not self.is_lost(window):
                waiting.append(window)
        for window in sorted(self.coming.get(tick, [])):
            self.queues.setdefault(self.port_of(window), []).append(window)
        crowded = [port for port, queue in self.queues.items() if len(queue) > 1]
        if crowded:
            return ("queue", tick, min(crowded))
        for window in waiting:
            if self.is_occupied(window, tick) or not self.is_first(window):
                return ("absent", tick, self.port_of(window))
            self.send(window, tick)
        return None

    def port_of(self, window):
        """Return the port of a window."""
        return self.ports[window[0]][window[1]]

    def is_occupied(self, window, tick):
        """Return True if a frame occupies the port of a window at a tick."""
        return self.free_from.get(self.port_of(window), tick) > tick

    def is_first(self, window):
        """Return True if the frame of a window is the first one of the queue."""
        return self.queues.get(self.port_of(window), [])[:1] == [window]

    def is_lost(self, window):
        """Return True if the frame of a window was lost."""
        return (window[0], window[2]) in self.lost

    def send(self, window, tick):
        """Send the frame of a window, which is the first one of the queue if there is one."""
        index, hop, number = window
        port = self.port_of(window)
        if hop > 0:
            del self.queues[port][0]
        self.free_from[port] = tick + self.streams[index].length
        if port in self.broken_ports:
            self.lost[(index, number)] = True
            return
        reached = tick + travel_of(self.net, self.streams[index], hop)
        if hop == len(self.ports[index]) - 1:
            self.deliveries.append((reached, index, number))
        else:
            self.coming.setdefault(reached, []).append((index, hop + 1, number))
