"""What chapter 05 says, worked out plainly: all faults of a plan, in the order in which they are looked for."""

from tests.plain_windows import plain_meet


def delay_of(net, a, b):
    [delay] = [ticks for x, y, ticks in net.lines if {x, y} == {a, b}]
    return delay


def plain_arrival(net, entry, hop):
    stream, offsets = entry
    a, b = stream.path[hop:hop + 2]
    arrival = offsets[hop] + stream.length + delay_of(net, a, b)
    return arrival + net.processing if net.kinds[b] == "switch" else arrival


def plain_wait(net, entry, hop):
    stream, offsets = entry
    a = plain_arrival(net, entry, hop - 1)
    return (a - 2 * net.error, max(1, offsets[hop] - a + 2 * net.error), stream.period)


def all_faults(net, plan):
    faults = []
    for number, entry in enumerate(plan):
        stream, offsets = entry
        for hop in range(1, len(offsets)):
            if offsets[hop] < plain_arrival(net, entry, hop - 1) + 2 * net.error:
                faults.append(("early", number, hop))
        if plain_arrival(net, entry, len(offsets) - 1) + net.error > stream.deadline:
            faults.append(("late", number))
    for j, (second, _) in enumerate(plan):
        for i, (first, _) in enumerate(plan[:j + 1]):
            for hop in range(len(first.path) - 1):
                for other in range(len(second.path) - 1):
                    if first.path[hop:hop + 2] == second.path[other:other + 2]:
                        faults += faults_at(net, plan, i, j, hop, other)
    return faults


def faults_at(net, plan, i, j, hop, other):
    (first, offsets), (second, others) = plan[i], plan[j]
    port = tuple(first.path[hop:hop + 2])
    faults = []
    windows = (offsets[hop], first.length, first.period), (others[other], second.length, second.period)
    if i != j and plain_meet(*windows):
        faults.append(("busy", i, j, port))
    if hop and other:
        waits = plain_wait(net, plan[i], hop), plain_wait(net, plan[j], other)
        if plain_meet(*waits) if i != j else waits[0][1] > first.period:
            faults.append(("queue", i, j, port))
    return faults
