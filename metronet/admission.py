"""Streams that come and go: the least offsets with which a stream fits beside a plan."""

from metronet.judging import wait_of, waits_too_long
from metronet.nets import ports_of
from metronet.plans import Stream, travel_of, windows_at
from metronet.windows import meet


def admit(net, plan, stream):
    """Return the least offsets of a stream beside a plan without a fault, or None if it does not fit."""
    # What fits behind a port depends on no offset before that port, so the ports are taken from the last one on.
    # The ways of a port are, for each offset there that leads to the end, the least offsets from that port on.
    hop = len(stream.path) - 2
    latest = stream.deadline - net.error - travel_of(net, stream, hop)
    ways = {offset: [offset] for offset in offsets_at(plan, stream, hop) if offset <= latest}
    while hop > 0:
        hop -= 1
        ways = ways_before(net, plan, stream, hop, ways)
    return ways[min(ways)] if ways else None


class Ledger:
    """A plan in which entries have names, and which never has a fault."""

    def __init__(self, net):
        self.net = net
        self.entries = {}

    def request(self, name, stream):
        """Admit a stream under a name; return its offsets, or None if it does not fit or the name is there."""
        if name in self.entries:
            return None
        offsets = admit(self.net, self.plan(), stream)
        if offsets is not None:
            self.entries[name] = copy_of((stream, offsets))
        return offsets

    def release(self, name):
        """Remove an entry; return True, or False if the name is not there."""
        if name not in self.entries:
            return False
        del self.entries[name]
        return True

    def names(self):
        """Return the names in the order in which their entries were admitted."""
        return list(self.entries)

    def plan(self):
        """Return the entries in the order in which they were admitted."""
        return [copy_of(entry) for entry in self.entries.values()]


def offsets_at(plan, stream, hop):
    """Return the offsets at a port, ascending, with which the window of a stream meets none that is there.

    An offset that is not less than the deadline is too late at each port.
    """
    windows = windows_at(plan, ports_of(stream.path)[hop])
    offsets = []
    for offset in range(stream.deadline):
        window = (offset, stream.length, stream.period)
        if not any([meet(window, other) for other in windows]):
            offsets.append(offset)
    return offsets


def ways_before(net, plan, stream, hop, ways):
    """Return the ways of a port; those of the next port are given."""
    waits = waits_at(net, plan, ports_of(stream.path)[hop + 1])
    found = {}
    for offset in offsets_at(plan, stream, hop):
        earliest = offset + travel_of(net, stream, hop) + 2 * net.error
        following = min([later for later in ways if later >= earliest], default=None)
        if following is None:
            continue
        way = [offset] + ways[following]
        # The greater the next offset, the longer the wait: if the least one is a fault, so are all others.
        wait = wait_of(net, (stream, [0] * hop + way), hop + 1)
        if not waits_too_long(wait) and not any([meet(wait, other) for other in waits]):
            found[offset] = way
    return found


def waits_at(net, plan, port):
    """Return the waits of all entries of a plan at a port of a switch."""
    waits = []
    for entry in plan:
        ports = ports_of(entry[0].path)
        if port in ports:
            waits.append(wait_of(net, entry, ports.index(port)))
    return waits


def copy_of(entry):
    """Return an entry that shares no list with another one, so that no change of that one reaches it."""
    stream, offsets = entry
    return (Stream(stream.period, stream.length, stream.deadline, stream.path), list(offsets))
