"""Small nets, and plans in them, for tests that try many of them."""

import itertools
import math

from metronet.nets import Net
from metronet.plans import Stream, arrival_of
from tests.plain_routes import all_paths

H, S = "host", "switch"
PERIODS = (4, 6, 8, 12)


def star(processing=0, error=0):
    """Three hosts around one switch, which is 1."""
    return Net([H, S, H, H], [(0, 1, 0), (1, 2, 1), (3, 1, 0)], processing=processing, error=error)


def chain(processing=0, error=0):
    """Two switches, 1 and 2, each with two hosts."""
    lines = [(0, 1, 1), (1, 2, 0), (2, 3, 2), (4, 1, 0), (2, 5, 0)]
    return Net([H, S, S, H, H, H], lines, processing=processing, error=error)


def ring(processing=0, error=0):
    """Three switches, 0 to 2, around which paths go in both directions, each with one host."""
    lines = [(0, 1, 0), (1, 2, 1), (2, 0, 0), (3, 0, 0), (1, 4, 0), (5, 2, 1)]
    return Net([S, S, S, H, H, H], lines, processing=processing, error=error)


def paths_of(net):
    """All paths of a net."""
    hosts = [node for node, kind in enumerate(net.kinds) if kind == H]
    found = [all_paths(net.kinds, net.lines, *ends) for ends in itertools.permutations(hosts, 2)]
    return [path for paths in found for path in sorted(paths)]


def entry_along(net, stream, start, slacks):
    """An entry that begins at an offset; at each further port it has some ticks more than it needs (or fewer)."""
    offsets = [start]
    for hop, slack in enumerate(slacks):
        arrival = arrival_of(net, (stream, offsets), hop)
        offsets.append(max(0, arrival + 2 * net.error + slack))
    return (stream, offsets)


def some_entry(net, numbers, slacks, deadline=300):
    """A random entry of a net, with slacks that are drawn from some numbers."""
    path = numbers.choice(paths_of(net))
    period = numbers.choice(PERIODS)
    stream = Stream(period, numbers.randint(1, min(3, period)), deadline, path)
    return entry_along(net, stream, numbers.randint(0, 15), [numbers.choice(slacks) for _ in path[2:]])


def enough_frames(plan):
    """A count of frames with which each fault shows: all offsets are passed, and then two common periods."""
    periods = [stream.period for stream, _ in plan]
    greatest = max(offset for _, offsets in plan for offset in offsets)
    return (greatest + 2 * math.lcm(*periods)) // min(periods) + 2


def all_errors(net):
    """All lists of clock errors within the bound of a net."""
    return itertools.product(range(-net.error, net.error + 1), repeat=len(net.kinds))


def some_errors(net, numbers):
    """A random list of clock errors; half of the lists go to the bound at each node."""
    values = (-net.error, net.error) if numbers.random() < 0.5 else range(-net.error, net.error + 1)
    return [numbers.choice(values) for _ in net.kinds]
