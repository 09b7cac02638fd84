"""Routes from one host to another: the shortest one, two separate ones, and what all of them need."""

from metronet.nets import Net, ports_of


def shortest_path(net, first, last):
    """Return the least of the paths with the fewest nodes, or None if there is no path."""
    return find_way(next_nodes(net, first), first, last)


def separate_paths(net, first, last):
    """Return a pair of separate paths, or None if there are none."""
    arcs = split_nodes(net, first)
    for _ in range(2):
        way = find_way(arcs, ("out", first), ("in", last))
        if way is None:
            return None
        arcs = turn_around(arcs, way)
    left, right = used_nodes(net, arcs, first)
    return follow(net, arcs, [first, left], last), follow(net, arcs, [first, right], last)


def bottleneck(net, first, last):
    """Return the least switch, or else the least line, without which no path is left; None if there is none."""
    path = shortest_path(net, first, last)
    if path is None:
        return None
    # A bottleneck is on every path, so it is on this one.
    for node in sorted(path[1:-1]):
        if shortest_path(without_node(net, node), first, last) is None:
            return ("switch", node)
    for a, b in sorted([(min(port), max(port)) for port in ports_of(path)]):
        if shortest_path(without_line(net, a, b), first, last) is None:
            return ("line", a, b)
    return None


def next_nodes(net, first):
    """Return for each node the nodes to which a path from a host may go on from there, ascending."""
    arcs = {}
    for node, kind in enumerate(net.kinds):
        arcs[node] = net.neighbours(node) if node == first or kind == "switch" else []
    return arcs


def find_way(arcs, start, goal):
    """Return the shortest way along some arcs, or None.

    If the arcs of each place are in ascending order, so are the ways of a level,
    and the way that is found is the least of the shortest ones.
    """
    ways = {start: [start]}
    level = [start]
    while level:
        reached = []
        for place in level:
            for head in arcs[place]:
                if head not in ways:
                    ways[head] = ways[place] + [head]
                    reached.append(head)
        level = reached
    return ways.get(goal)


def split_nodes(net, first):
    """Return arcs in which each node is two places: paths come in at one and go out from the other.

    One arc joins the two places of a node. As each arc is used only once,
    the ways along these arcs have no switch in common.
    """
    arcs = {}
    for node, heads in next_nodes(net, first).items():
        arcs[("in", node)] = [("out", node)]
        arcs[("out", node)] = [("in", head) for head in heads]
    return arcs


def turn_around(arcs, way):
    """Return the arcs with those of a way in the other direction, where a later way may take them back."""
    turned = ports_of(way)
    result = {}
    for place, heads in arcs.items():
        kept = [head for head in heads if (place, head) not in turned]
        result[place] = kept + [tail for tail, head in turned if head == place]
    return result


def used_nodes(net, arcs, node):
    """Return the nodes to which the ways go on from a node: the arcs from there are turned around."""
    return [head for head in net.neighbours(node) if ("out", node) in arcs[("in", head)]]


def follow(net, arcs, start, last):
    """Return the path that begins with the nodes of a list and goes on as the ways do."""
    path = list(start)
    while path[-1] != last:
        path = path + used_nodes(net, arcs, path[-1])
    return path


def without_node(net, node):
    """Return a net in which a node has no lines."""
    return Net(net.kinds, [line for line in net.lines if node not in line[:2]])


def without_line(net, a, b):
    """Return a net without the line between two nodes."""
    return Net(net.kinds, [line for line in net.lines if a not in line[:2] or b not in line[:2]])
