"""Writes calls by their names, reads the answers apart again, and says by the document's bare words what is due."""

from functools import lru_cache

from primering.differences import answers

NAMES = (
    "begin put take kept move times grow leads of common "
    "into rounds differ who inner group greatest steps told"
).split()
ARGUMENT_COUNTS = dict(
    begin=1, put=1, take=1, kept=0, move=1, times=1, grow=0, leads=2, of=1, common=2,
    into=2, rounds=1, differ=1, who=0, inner=0, group=0, greatest=0, steps=2, told=0,
)
GREATEST = 4294967295


def line(text):
    """The list of calls that a text such as "begin 7, put 3, kept" stands for."""
    calls = []
    for call in text.split(","):
        words = call.split()
        given = [int(word) for word in words[1:]]
        if len(given) != ARGUMENT_COUNTS[words[0]]:
            raise ValueError(call)
        calls += [NAMES.index(words[0])] + given
    return calls


def apart(numbers):
    """The answers, one list each, of a list that `answers` gave back."""
    rows = []
    at = 0
    while at < len(numbers):
        end = at + 1 + numbers[at]
        if numbers[at] < 1 or end > len(numbers):
            raise ValueError("answers that don't come out even", numbers)
        rows.append(numbers[at + 1:end])
        at = end
    return rows


def ask(text):
    return apart(answers(line(text)))


def last(text):
    return ask(text)[-1]


def keeping(prime, points):
    """The beginning of a line by this prime with these points kept."""
    return ", ".join([f"begin {prime}"] + [f"put {point}" for point in points])


@lru_cache(maxsize=None)
def led(prime):
    """For each point the points to which it leads, straight from what leading means."""
    left = {number * number % prime for number in range(1, prime)}
    return [{y for y in range(prime) if (y - x) % prime in left} for x in range(prime)]


@lru_cache(maxsize=None)
def greatest_groups(prime):
    """All the greatest groups with 0 and 1 in them, each rising: every group is written out, size by size."""
    to = led(prime)
    groups = [(0, 1)]
    while True:
        greater = [
            members + (point,)
            for members in groups
            for point in range(members[-1] + 1, prime)
            if all(point in to[member] and member in to[point] for member in members)
        ]
        if not greater:
            return groups
        groups = greater


def rounds_due(prime, x):
    to = led(prime)
    ways = [(y, z) for y in to[x] for z in to[y] if x in to[z]]
    if prime % 4 == 1:
        return len({tuple(sorted(way)) for way in ways})
    return len(ways)


def steps_due(prime, x, y):
    to = led(prime)
    far = {x: 0}
    waiting = [x]
    for point in waiting:
        for further in sorted(to[point]):
            if further not in far:
                far[further] = far[point] + 1
                waiting.append(further)
    return far[y]


def differ_due(prime, d):
    left = sorted({number * number % prime for number in range(1, prime)})
    return len([1 for first in left for second in left if (first - second - d) % prime == 0])


def counting(points):
    return [len(points)] + list(points)


class WordedRing:
    """A ring that answers one call after another by the document's words, however slowly."""

    def __init__(self):
        self.prime = None
        self.points = []

    def row(self, name, *given):
        if name == "begin":
            return self.begin(*given)
        if self.prime is None:
            return [-11]
        if name in ("put", "take", "leads", "of", "common", "into", "rounds", "steps"):
            if any(point >= self.prime for point in given):
                return [-2]
        if name in ("leads", "common", "into") and given[0] == given[1]:
            return [-22]
        if name in ("times", "differ") and given[0] % self.prime == 0:
            return [-22]
        return getattr(self, name)(*given)

    def begin(self, p):
        if p < 3 or p > 199 or any(p % n == 0 for n in range(2, p)):
            return [-22]
        self.prime = p
        self.points = []
        return [0]

    def put(self, x):
        if x in self.points:
            return [-17]
        if len(self.points) == 12:
            return [-28]
        self.points.append(x)
        return [len(self.points)]

    def take(self, x):
        if x not in self.points:
            return [-2]
        self.points.remove(x)
        return [len(self.points)]

    def kept(self):
        return counting(self.points)

    def move(self, t):
        self.points = [(x + t) % self.prime for x in self.points]
        return self.kept()

    def times(self, k):
        self.points = [x * k % self.prime for x in self.points]
        return self.kept()

    def grow(self):
        if len(self.points) == 12:
            return [-28]
        fitting = self.who()[1:]
        if not fitting:
            return [-33]
        self.points.append(fitting[0])
        return [fitting[0]]

    def leads(self, x, y):
        return [int(y in led(self.prime)[x])]

    def of(self, x):
        return counting(sorted(led(self.prime)[x]))

    def common(self, x, y):
        to = led(self.prime)
        return counting(sorted(to[x] & to[y]))

    def into(self, x, y):
        to = led(self.prime)
        return counting([z for z in range(self.prime) if x in to[z] and y in to[z]])

    def rounds(self, x):
        return [rounds_due(self.prime, x)]

    def differ(self, d):
        return [differ_due(self.prime, d)]

    def who(self):
        to = led(self.prime)
        others = [z for z in range(self.prime) if z not in self.points]
        return counting([z for z in others if all(x in to[z] for x in self.points)])

    def inner(self):
        to = led(self.prime)
        pairs = [(x, y) for at, x in enumerate(self.points) for y in self.points[:at]]
        return [len([1 for x, y in pairs if y in to[x] or x in to[y]])]

    def group(self):
        to = led(self.prime)
        return [int(all(y in to[x] for x in self.points for y in self.points if x != y))]

    def greatest(self):
        if self.prime % 4 == 3:
            return [-33]
        return counting(min(greatest_groups(self.prime)))

    def steps(self, x, y):
        return [steps_due(self.prime, x, y)]

    def told(self):
        return [self.prime, self.prime % 4]


def due(text):
    """The answers that the document asks for, one list each."""
    ring = WordedRing()
    rows = []
    for call in text.split(","):
        words = call.split()
        rows.append(ring.row(words[0], *[int(word) for word in words[1:]]))
    return rows
