"""Other frames: they wait at a port, and are sent in the ticks that its windows leave free."""

from metronet.windows import common_period


def send_others(windows, frames):
    """Return the ticks at which frames are sent, None for those that are never sent."""
    free = FreeTicks(windows)
    starts = []
    ready = 0
    for tick, length in frames:
        # A frame that is never sent holds up all frames behind it.
        start = None if ready is None else free.earliest_start(max(tick, ready), length)
        ready = None if start is None else start + length
        starts.append(start)
    return starts


def gap(windows):
    """Return the greatest number of free ticks in a row that comes back, or None if it is unlimited."""
    free = FreeTicks(windows)
    if not free.begins:
        return None
    return max([behind - first for first, behind in free.last_runs()], default=0)


def longest_wait(windows, length):
    """Return the greatest number of ticks that a single frame has to wait, or None if it is never sent."""
    free = FreeTicks(windows)
    if not free.begins:
        return 0
    runs = [(first, behind) for first, behind in free.last_runs() if behind - first >= length]
    if not runs:
        return None
    # A frame waits longest if it comes one tick behind the last one at which it would be sent in a run at once.
    return max([later[0] - run[1] for run, later in zip(runs, runs[1:])]) + length - 1


class FreeTicks:
    """The free ticks among some windows.

    A phase begins where some windows begin, and ends where the next ones do. In a phase, the free ticks come back
    in each common period of the windows that have begun. As a window takes its first tick, no run of free ticks
    goes on from one phase, or from one common period of it, to the next one.
    """

    def __init__(self, windows):
        self.windows = [window for window in windows if window[1] > 0]
        self.begins = sorted({window[0] for window in self.windows})
        self.ends = self.begins[1:] + [None]
        # For each phase that was needed, by its number: its common period and its runs.
        self.patterns = {}

    def earliest_start(self, tick, length):
        """Return the earliest tick, from one on, from which on `length` ticks in a row are free; None if none is."""
        if not self.begins or tick + length <= self.begins[0]:
            return tick
        for phase, begin in enumerate(self.begins):
            start = self.start_in_phase(phase, max(tick, begin), length)
            if start is not None:
                return start
        return None

    def start_in_phase(self, phase, tick, length):
        """Return the earliest start in a phase from a tick on that is not before the phase, or None."""
        end = self.ends[phase]
        if end is not None and tick + length > end:
            return None
        period, runs = self.pattern_of(phase)
        place = (tick - self.begins[phase]) % period
        for first, behind in runs:
            wait = max(first - place, 0)
            if place + wait + length <= behind:
                # The later starts of the phase are still nearer to its end.
                return tick + wait if end is None or tick + wait + length <= end else None
        return None

    def last_runs(self):
        """Return the runs of the last phase, which has no end, in two common periods."""
        return self.pattern_of(len(self.begins) - 1)[1]

    def pattern_of(self, phase):
        """Return the common period of a phase, and its runs in two common periods or up to its end."""
        if phase not in self.patterns:
            begin, end = self.begins[phase], self.ends[phase]
            begun = [window for window in self.windows if window[0] <= begin]
            period = common_period(begun)
            count = 2 * period if end is None else min(2 * period, end - begin)
            self.patterns[phase] = (period, runs_of(begun, begin, count))
        return self.patterns[phase]


def runs_of(windows, begin, count):
    """Return the runs of free ticks among as many ticks from the begin of a phase on; the tick behind is not free.

    A run is a pair: its first tick and the tick behind it, both counted from the begin of the phase.
    """
    taken = sorted({place for window in windows for place in places_of(window, begin, count)}) + [count]
    return [(place + 1, later) for place, later in zip(taken, taken[1:]) if place + 1 < later]


def places_of(window, begin, count):
    """Return the ticks of a window among as many ticks from one on, counted from there. The window has begun."""
    offset, length, period = window
    places = []
    for start in range(-((begin - offset) % period), count, period):
        places.extend(list(range(max(start, 0), min(start + min(length, period), count))))
    return places
