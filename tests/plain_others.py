"""What chapter 07 says, worked out plainly: tick by tick."""

import math

from tests.plain_windows import stretches


def plain_period(windows):
    return math.lcm(*[period for _, _, period in windows])


def greatest_offset(windows):
    return max([offset for offset, _, _ in windows], default=0)


def ticks_in(windows, end):
    """All ticks of the windows; those before an end are complete."""
    return {tick for window in windows for ticks in stretches(window, end) for tick in ticks}


def plain_send(windows, frames):
    """The ticks at which frames are sent, by trying every tick until all must come back."""
    starts, ready = [], 0
    for tick, length in frames:
        first = None if ready is None else max(tick, ready)
        start = None if first is None else plain_start(windows, first, length)
        ready = None if start is None else start + length
        starts.append(start)
    return starts


def plain_start(windows, first, length):
    end = max(first, greatest_offset(windows)) + 2 * plain_period(windows)
    taken = ticks_in(windows, end + length)
    in_a_row = 0
    for tick in range(first, end + length):
        in_a_row = 0 if tick in taken else in_a_row + 1
        if in_a_row == length:
            return tick - length + 1
    return None


def plain_gap(windows):
    begin = greatest_offset(windows)
    end = begin + 3 * plain_period(windows)
    taken = ticks_in(windows, end)
    if taken.isdisjoint(range(begin, end)):
        return None
    greatest = in_a_row = 0
    for tick in range(begin, end):
        in_a_row = 0 if tick in taken else in_a_row + 1
        greatest = max(greatest, in_a_row)
    return greatest


def plain_longest_wait(windows, length):
    begin = greatest_offset(windows)
    ticks = range(begin, begin + plain_period(windows))
    starts = [plain_start(windows, tick, length) for tick in ticks]
    if None in starts:
        return None
    return max(start - tick for start, tick in zip(starts, ticks))
