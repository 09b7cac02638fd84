"""Judging plans: the fault that a plan has, and the clock errors with which it shows."""

from metronet.nets import ports_of
from metronet.plans import arrival_of, window_of
from metronet.windows import meet


def judge(net, plan):
    """Return the fault of a plan, or None if it has none."""
    for index in range(len(plan)):
        fault = fault_alone(net, plan, index)
        if fault is not None:
            return fault
    for j in range(len(plan)):
        for i in range(j + 1):
            fault = fault_together(net, plan, i, j)
            if fault is not None:
                return fault
    return None


def wait_of(net, entry, hop):
    """Return the window in which frames of an entry may stand in the queue of a port, in ticks of its node."""
    arrival = arrival_of(net, entry, hop - 1)
    offset, _, period = window_of(entry, hop)
    return (arrival - 2 * net.error, max(1, offset - arrival + 2 * net.error), period)


def worst_errors(net, plan, fault):
    """Return the clock errors of all nodes with which a fault of a plan shows."""
    kind = fault[0]
    if kind == "queue":
        errors = [-net.error] * len(net.kinds)
        errors[fault[3][0]] = net.error
        return errors
    errors = [0] * len(net.kinds)
    if kind == "early":
        path = plan[fault[1]][0].path
        hop = fault[2]
        errors[path[hop - 1]] = net.error
        errors[path[hop]] = -net.error
    if kind == "late":
        path = plan[fault[1]][0].path
        errors[path[-2]] = net.error
    return errors


def fault_alone(net, plan, index):
    """Return the first fault of the times of an entry, or None."""
    stream, offsets = plan[index]
    for hop in range(1, len(offsets)):
        if offsets[hop] < arrival_of(net, plan[index], hop - 1) + 2 * net.error:
            return ("early", index, hop)
    if arrival_of(net, plan[index], len(offsets) - 1) + net.error > stream.deadline:
        return ("late", index)
    return None


def fault_together(net, plan, i, j):
    """Return the first fault at a port that two entries, or an entry and itself, have in common, or None."""
    first, second = plan[i], plan[j]
    ports = ports_of(second[0].path)
    for hop, port in enumerate(ports_of(first[0].path)):
        if port not in ports:
            continue
        other_hop = ports.index(port)
        if i != j and meet(window_of(first, hop), window_of(second, other_hop)):
            return ("busy", i, j, port)
        if hop == 0 or other_hop == 0:
            continue
        wait, other_wait = wait_of(net, first, hop), wait_of(net, second, other_hop)
        if (i != j and meet(wait, other_wait)) or (i == j and waits_too_long(wait)):
            return ("queue", i, j, port)
    return None


def waits_too_long(wait):
    """Return True if a frame may still stand in a queue when the next one of the same entry comes."""
    _, length, period = wait
    return length > period
