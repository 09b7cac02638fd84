"""What chapter 06 says, worked out plainly: every tick, every occupied tick of a port, every frame by itself."""

from tests.plain_judging import delay_of


def plain_simulate(net, plan, errors, count, broken=None):
    """The deliveries and the break (or None) of a simulation."""
    opens, queues = {}, {}
    for e, (stream, offsets) in enumerate(plan):
        for h, offset in enumerate(offsets):
            queues[port_at(plan, e, h)] = []
            for k in range(count):
                opens[e, h, k] = offset + k * stream.period + errors[stream.path[h]]
    reaches, lost, occupied = {}, set(), set()

    def send(e, h, k, tick):
        stream = plan[e][0]
        a, b = port = port_at(plan, e, h)
        occupied.update((port, later) for later in range(tick, tick + stream.length))
        if broken is not None and {a, b} == set(broken):
            lost.add((e, k))
        else:
            after = tick + stream.length + delay_of(net, a, b)
            reaches[e, h, k] = after + net.processing if net.kinds[b] == "switch" else after

    def result(fault, tick):
        return sorted(
            (reached, e, k)
            for (e, h, k), reached in reaches.items()
            if h == len(plan[e][1]) - 1 and (fault is None or reached <= tick)
        ), fault

    for tick in range(min(opens.values(), default=0), max(opens.values(), default=0) + 400):
        waiting = []
        for e, h, k in sorted(window for window, opened in opens.items() if opened == tick):
            port = port_at(plan, e, h)
            if (port, tick) in occupied:
                return result(("busy", tick, port), tick)
            if h == 0:
                send(e, h, k, tick)
            elif (e, k) in lost:
                pass
            elif queues[port] and queues[port][0] == (e, k):
                queues[port].pop(0)
                send(e, h, k, tick)
            else:
                waiting.append((e, h, k))
        for e, h, k in sorted(window for window, reached in reaches.items() if reached == tick):
            if h < len(plan[e][1]) - 1:
                queues[port_at(plan, e, h + 1)].append((e, k))
        for port in sorted(queues):
            if len(queues[port]) > 1:
                return result(("queue", tick, port), tick)
        for e, h, k in waiting:
            port = port_at(plan, e, h)
            if not queues[port] or queues[port][0] != (e, k) or (port, tick) in occupied:
                return result(("absent", tick, port), tick)
            queues[port].pop(0)
            send(e, h, k, tick)
    return result(None, None)


def port_at(plan, e, h):
    return tuple(plan[e][0].path[h:h + 2])
