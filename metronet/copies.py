"""Copies of a frame that took two paths: the first one is taken, the second one is dropped."""

from metronet.plans import arrival_of

# Frames carry their numbers modulo this one.
NUMBERS = 65536


class Eliminator:
    """Takes the first copy of each number, and drops the others."""

    def __init__(self, size):
        self.size = size
        # Numbers are counted on beyond 65535 here. So a number that has left the history never comes back to it,
        # and each number of the history has a place of its own, where it stands if it was taken.
        self.top = None
        self.taken = [None] * size

    def take(self, number):
        """Return True if a number is taken."""
        if self.top is None:
            self.top = number
        ahead = (number - self.top + NUMBERS // 2) % NUMBERS - NUMBERS // 2
        counted = self.top + ahead
        place = counted % self.size
        if ahead <= -self.size or self.taken[place] == counted:
            return False
        self.top = max(self.top, counted)
        self.taken[place] = counted
        return True


def history_of(net, first, second):
    """Return a history that is enough to merge two entries with equal periods."""
    arrivals = [arrival_of(net, entry, len(entry[1]) - 1) for entry in (first, second)]
    spread = abs(arrivals[0] - arrivals[1]) + 2 * net.error
    return spread // first[0].period + 2


def receive(net, plan, pair, run):
    """Return the pairs of a tick and a frame of the copies that are taken, in the order of the deliveries."""
    first, second = pair
    eliminator = Eliminator(history_of(net, plan[first], plan[second]))
    taken = []
    for tick, entry, frame in run.deliveries:
        if entry in pair and eliminator.take(frame % NUMBERS):
            taken.append((tick, frame))
    return taken
