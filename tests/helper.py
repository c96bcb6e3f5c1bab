"""What the tests share: how calls are written, how answers are read, and a slow, plain board."""

from marblegates.board import answers

TILTS = 0
STAYS = 1
MOST_COUNT = 18446744073709551615
NONE = [4] * 16
OUT = [64, 64, 64, 64]


def build(gates, entries=None, levers=None):
    """A build of gates (kind, tilt, left, right); all entries lead to place 0 if not told."""
    numbers = [number for gate in gates for number in gate]
    first = 0 if gates else 64
    entries = [first] * 4 if entries is None else entries
    levers = NONE if levers is None else levers
    return [0, len(numbers)] + numbers + [len(entries)] + entries + [len(levers)] + levers


def drop(entry):
    return [1, entry]


def many(entry, count):
    return [2, entry, count]


def run(entry, most):
    return [3, entry, most]


def back(entry):
    return [4, entry]


def tilt(gate, side):
    return [5, gate, side]


def state():
    return [6]


def listed(calls):
    """One list out of a list of calls."""
    return [number for call in calls for number in call]


def split(answered):
    """The answers one by one, without the count before each."""
    parts = []
    at = 0
    while at < len(answered):
        size = answered[at]
        parts.append(answered[at + 1:at + 1 + size])
        at += 1 + size
    return parts


def ask(*calls):
    return split(answers(listed(calls)))


def exits(counts):
    """Sixteen numbers out of a dict of those that are not 0."""
    return [counts.get(number, 0) for number in range(16)]


def counted(parts):
    """Sixteen numbers out of what drops answered."""
    return [sum(part == [number] for part in parts) for number in range(16)]


class SlowBoard:
    """A marble at a time, a gate at a time, a tilt at a time."""

    def __init__(self, gates, entries, levers):
        self.gates = [list(gate) for gate in gates]
        self.entries = entries
        self.levers = levers

    def drop(self, entry):
        place = self.entries[entry]
        while place < 64:
            kind, tilt, left, right = self.gates[place]
            if kind == TILTS:
                self.gates[place][1] = 1 - tilt
            for gate in self.gates:
                if kind >= 2 and gate[0] == kind:
                    gate[1] = 1 - gate[1]
            place = right if tilt else left
        return [place - 64]

    def many(self, entry, count):
        if any(gate[0] >= 2 for gate in self.gates):
            return [-33]
        counts = [0] * 16
        for _ in range(count):
            counts[self.drop(entry)[0]] += 1
        return [0] + counts

    def run(self, entry, most):
        counts = [0] * 16
        while True:
            came = self.drop(entry)[0]
            counts[came] += 1
            entry = self.levers[came]
            if entry == 4 or sum(counts) == most:
                return [sum(counts)] + counts + [entry]


    def back(self, entry):
        """Lets marbles go on a board of its own till all is as it was; the board should be small."""
        if any(gate[0] >= 2 for gate in self.gates):
            return [-33]
        trial = SlowBoard(self.gates, self.entries, self.levers)
        gone = 0
        doublings = -1
        while doublings < 0 or trial.gates != self.gates:
            doublings += 1
            while gone < 2 ** doublings:
                trial.drop(entry)
                gone += 1
        return [doublings]

    def tilt(self, number, side):
        before = self.gates[number][1]
        self.gates[number][1] = side
        return [before]

    def state(self):
        return [len(self.gates), sum(2 ** number for number, gate in enumerate(self.gates) if gate[1] == 1)]


def chain(size):
    """Tilting gates that each lead to the next one on both sides, the last one out of exits 0 and 1."""
    gates = [[TILTS, 0, number + 1, number + 1] for number in range(size - 1)]
    return gates + [[TILTS, 0, 64, 65]]


def counter(size):
    """Tilting gates of which each hands every other marble on to the next one."""
    gates = [[TILTS, 0, 64, number + 1] for number in range(size - 1)]
    return gates + [[TILTS, 0, 64, 65]]


def some_board(source, kinds, size):
    """Gates, entries and levers as a build may have them."""
    outs = list(range(64, 80))
    gates = []
    for number in range(size):
        ahead = list(range(number + 1, size))
        near = ahead[:3]
        gates.append([source.choice(kinds), source.randrange(2)]
                     + [source.choice(near + near + ahead + outs[:4]) for _ in range(2)])
    entries = [source.choice(list(range(min(size, 3))) + outs) for _ in range(3)]
    entries = [0 if size else 79] + entries
    levers = [source.randrange(5) for _ in range(16)]
    return gates, entries, levers
