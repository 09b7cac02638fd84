"""Nets and plans as texts."""

from metronet.errors import InvalidText
from metronet.nets import Net, is_path
from metronet.plans import Stream

# For each kind of lines, the kinds behind which it may stand; "" means the begin of the text.
PLACES = {
    "net": ("",),
    "host": ("net", "host", "switch"),
    "switch": ("net", "host", "switch"),
    "line": ("host", "switch", "line"),
    "stream": ("host", "switch", "line", "stream"),
}


def write_text(net, plan):
    """Return the text of a net and a plan."""
    lines = [f"net {net.processing} {net.error}"] + net.kinds
    lines = lines + [f"line {a} {b} {delay}" for a, b, delay in net.lines]
    for stream, offsets in plan:
        words = f"{stream.period} {stream.length} {stream.deadline}"
        lines.append(f"stream {words} {joined(stream.path)} {joined(offsets)}")
    return "".join([f"{line}\n" for line in lines])


def read_text(text):
    """Return the net and the plan of a text; raise InvalidText if a line is wrong."""
    lines = text.split("\n")
    reader = Reader()
    for line in lines[:-1]:
        reader.read_line(line)
    # Behind the last line feed stands nothing, or a line that has none.
    reader.check(lines[-1] == "" and len(reader.kinds) > 0)
    return reader.net_so_far(), reader.entries


class Reader:
    """Reads lines one after another, and keeps what they tell."""

    def __init__(self):
        self.place = 0
        self.previous = ""
        self.processing = 0
        self.error = 0
        self.kinds = []
        self.lines = []
        self.entries = []

    def check(self, holds):
        """Raise InvalidText for the line that is read, unless something holds."""
        if not holds:
            raise InvalidText(self.place)

    def read_line(self, line):
        """Read a line, without its line feed."""
        words = line.split(" ")
        kind = words[0]
        self.check(kind in PLACES and self.previous in PLACES[kind])
        if kind == "net":
            self.processing, self.error = self.read_numbers(words[1:], [(0, 10), (0, 5)])
        elif kind == "line":
            self.read_net_line(words)
        elif kind == "stream":
            self.read_stream(words)
        else:
            self.check(len(words) == 1 and len(self.kinds) < 12)
            self.kinds.append(kind)
        self.previous = kind
        self.place += 1

    def read_net_line(self, words):
        """Read a line that joins two nodes."""
        nodes = (0, len(self.kinds) - 1)
        a, b, delay = self.read_numbers(words[1:], [nodes, nodes, (0, 20)])
        self.check(a != b and self.net_so_far().delay(a, b) is None)
        self.lines.append((a, b, delay))

    def read_stream(self, words):
        """Read a line that tells an entry."""
        self.check(len(words) == 6)
        period, length, deadline = self.read_numbers(words[1:4], [(1, 60), (1, 60), (1, 300)])
        self.check(length <= period)
        nodes = words[4].split(",")
        path = self.read_numbers(nodes, [(0, len(self.kinds) - 1)] * len(nodes))
        self.check(is_path(self.net_so_far(), path))
        offsets = self.read_numbers(words[5].split(","), [(0, 500)] * (len(path) - 1))
        self.entries.append((Stream(period, length, deadline, path), offsets))

    def read_numbers(self, words, bounds):
        """Return the numbers of some words; there is one for each pair of a least and a greatest number."""
        self.check(len(words) == len(bounds) and all([is_number(word) for word in words]))
        numbers = [int(word) for word in words]
        self.check(all([low <= number <= high for number, (low, high) in zip(numbers, bounds)]))
        return numbers

    def net_so_far(self):
        """Return the net of the lines that were read."""
        return Net(self.kinds, self.lines, processing=self.processing, error=self.error)


def is_number(word):
    """Return True if a word is a number."""
    return word == "0" or (word.isdigit() and word[0] != "0" and len(word) <= 9)


def joined(numbers):
    """Return numbers with a comma between two of them."""
    return ",".join([str(number) for number in numbers])
