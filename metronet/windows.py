"""Windows: ticks that come back in each period, and where two of them meet."""

from math import gcd, lcm


def meet(first, second):
    """Return True if a stretch of one window and a stretch of another one have a tick in common."""
    first_offset, first_length, first_period = first
    second_offset, second_length, second_period = second
    if first_length == 0 or second_length == 0:
        return False
    shared = gcd(first_period, second_period)
    behind_first = (second_offset - first_offset) % shared
    behind_second = (first_offset - second_offset) % shared
    return behind_first < first_length or behind_second < second_length


def first_meeting(first, second):
    """Return the numbers of the first stretches with a common tick, or None if the windows do not meet."""
    if not meet(first, second):
        return None
    offset, length, period = first
    other_offset, other_length, other_period = second
    start = number_from(first, other_offset)
    # No stretch before this one reaches the other window. From here on a stretch meets one of the other window
    # exactly if its last tick comes in one of the first `wide` ticks of a period of the other window.
    last_tick = offset + start * period + length - 1
    wide = length + other_length - 1
    number = start + count_steps(last_tick - other_offset, period, other_period, wide)
    return (number, number_from(second, offset + number * period))


def is_free(windows, tick):
    """Return True if no stretch of any window of a list contains a tick."""
    return not any([contains(window, tick) for window in windows])


def common_period(windows):
    """Return the least common multiple of the periods of the windows of a list."""
    result = 1
    for window in windows:
        result = lcm(result, window[2])
    return result


def contains(window, tick):
    """Return True if a stretch of a window contains a tick."""
    offset, length, period = window
    return tick >= offset and (tick - offset) % period < length


def number_from(window, tick):
    """Return the number of the first stretch whose last tick is not before a tick."""
    offset, length, period = window
    return max(0, round_up(tick - offset - length + 1, period))


def count_steps(start, step, circle, wide):
    """Return the least count of steps from a start to the first `wide` places of a circle; they can be reached."""
    place = start % circle
    if place < wide:
        return 0
    return least_factor(step % circle, circle, circle - place, circle - place + wide - 1)


def least_factor(step, circle, low, high):
    """Return the least factor of `step` with a product from `low` to `high`, modulo `circle`; there is one.

    `low` is at least 1. To try one factor after another would take as long as the periods are great.
    """
    outer = []
    while round_up(low, step) * step > high:
        # No product before the first turn around the circle is right. After some turns one is right exactly if a
        # multiple of `step` lies from `low` to `high` behind them, which is the same question modulo `step`.
        outer.append((step, circle, low))
        step, circle, low, high = circle % step, step, -high % step, -low % step
    factor = round_up(low, step)
    for step, circle, low in reversed(outer):
        factor = round_up(low + factor * circle, step)
    return factor


def round_up(number, divisor):
    """Return the least integer that is not less than a quotient."""
    return -(-number // divisor)
