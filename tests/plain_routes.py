"""What chapter 02 says, worked out plainly: by all paths, and by leaving out each switch and each line."""


def joined_in(lines):
    return {(a, b) for a, b, _ in lines} | {(b, a) for a, b, _ in lines}


def all_paths(kinds, lines, first, last):
    """All paths from one host to another."""
    joined = joined_in(lines)
    found = []
    begun = [[first]]
    while begun:
        path = begun.pop()
        for node in range(len(kinds)):
            if (path[-1], node) not in joined or node in path:
                continue
            if node == last:
                found.append(path + [node])
            elif kinds[node] == "switch":
                begun.append(path + [node])
    return found


def is_there_a_path(kinds, lines, first, last):
    joined = joined_in(lines)
    inside = {first}
    while True:
        more = {
            node
            for node in range(len(kinds))
            if node not in inside and any(
                (at, node) in joined and (at == first or kinds[at] == "switch") for at in inside
            )
        }
        if not more:
            return last in inside
        inside |= more


def bottlenecks(kinds, lines, first, last):
    """All bottlenecks: the switches ascending, then the lines ascending."""
    if not is_there_a_path(kinds, lines, first, last):
        return []
    found = []
    for switch in range(len(kinds)):
        left = [line for line in lines if switch not in line[:2]]
        if kinds[switch] == "switch" and not is_there_a_path(kinds, left, first, last):
            found.append(("switch", switch))
    for a, b in sorted(tuple(sorted(line[:2])) for line in lines):
        left = [line for line in lines if {a, b} != set(line[:2])]
        if not is_there_a_path(kinds, left, first, last):
            found.append(("line", a, b))
    return found


def apart(one, other):
    """Whether two paths with the same ends are separate."""
    lines_of = [{frozenset(pair) for pair in zip(path, path[1:])} for path in (one, other)]
    return not set(one[1:-1]) & set(other[1:-1]) and not lines_of[0] & lines_of[1]
