"""Nets of hosts and switches, and the paths through them."""


class Net:
    """Hosts and switches, numbered from 0, and the lines between them."""

    def __init__(self, kinds, lines, *, processing=0, error=0):
        self.kinds = list(kinds)
        self.lines = list(lines)
        self.processing = processing
        self.error = error
        # Each line stands here in both directions, so the order of its nodes does not matter.
        self._delays = {}
        for a, b, ticks in self.lines:
            self._delays[(a, b)] = ticks
            self._delays[(b, a)] = ticks

    def __eq__(self, other):
        return (
            isinstance(other, Net)
            and self.kinds == other.kinds
            and self.processing == other.processing
            and self.error == other.error
            and self._delays == other._delays
        )

    def delay(self, a, b):
        """Return the delay of the line between two nodes, or None if there is none."""
        return self._delays.get((a, b))

    def neighbours(self, a):
        """Return the nodes that are joined with a node, ascending."""
        return [b for b in range(len(self.kinds)) if (a, b) in self._delays]


def is_path(net, nodes):
    """Return True if a list of nodes of a net is a path."""
    if len(nodes) < 2 or len(set(nodes)) < len(nodes):
        return False
    kinds = [net.kinds[node] for node in nodes]
    if kinds != ["host"] + ["switch"] * (len(nodes) - 2) + ["host"]:
        return False
    return all([net.delay(a, b) is not None for a, b in ports_of(nodes)])


def ports_of(path):
    """Return the ports of a path, the pairs of neighbours, in order."""
    return list(zip(path, path[1:]))


def are_separate(first, second):
    """Return True if two paths with the same ends have no other node and no line in common."""
    nodes = [node for node in first[1:-1] if node in second]
    # Both paths go from the same end to the same end, so neither goes along a line of the other backwards
    # without a node in common: to compare the ports is enough.
    ports = [port for port in ports_of(first) if port in ports_of(second)]
    return not nodes and not ports
