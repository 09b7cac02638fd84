"""What chapter 09 says, worked out plainly: the history as a list of numbers."""


class PlainEliminator:
    def __init__(self, size):
        self.size, self.top, self.taken = size, None, set()

    def take(self, number):
        if self.top is None:
            self.top = number
            self.taken = {number}
            return True
        ahead = (number - self.top) % 65536
        if ahead > 32767:
            ahead -= 65536
        if ahead > 0:
            self.top = number
            self.taken = {number} | {kept for kept in self.taken if kept in self.history()}
            return True
        if ahead < 1 - self.size or number in self.taken:
            return False
        self.taken.add(number)
        return True

    def history(self):
        return {(self.top - back) % 65536 for back in range(self.size)}


def plain_receive(deliveries, pair):
    """The first copy of each frame that one of two entries delivers."""
    seen, first = set(), []
    for tick, entry, frame in deliveries:
        if entry in pair and frame not in seen:
            seen.add(frame)
            first.append((tick, frame))
    return first
