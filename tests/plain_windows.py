"""What chapter 03 says, worked out plainly: stretch by stretch."""

import math


def stretches(window, end):
    """The stretches of a window that begin before a tick, as ranges of ticks, in order."""
    offset, length, period = window
    return [range(start, start + length) for start in range(offset, end, period)]


def end_for(first, second):
    """A tick behind which the meetings of two windows only come back."""
    common = math.lcm(first[2], second[2])
    return max(first[0], second[0]) + 2 * common + first[1] + second[1] + first[2] + second[2]


def plain_first_meeting(first, second):
    """The first pair of stretches with a common tick, by going through all of them."""
    end = end_for(first, second)
    others = stretches(second, end)
    for k, ticks in enumerate(stretches(first, end)):
        for m, more in enumerate(others):
            if max(ticks.start, more.start) < min(ticks.stop, more.stop):
                return (k, m)
    return None


def plain_meet(first, second):
    """Whether two windows have a tick in common."""
    end = end_for(first, second)
    ticks = [{tick for ticks in stretches(window, end) for tick in ticks} for window in (first, second)]
    return not ticks[0].isdisjoint(ticks[1])


def plain_is_free(windows, tick):
    """Whether no stretch of any window contains a tick."""
    return all(tick not in ticks for window in windows for ticks in stretches(window, tick + 1))
