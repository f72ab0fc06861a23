"""Gaps: by how much a reading costs less than another one for the image that it draws."""

from surelyread.drawing import plain_image
from surelyread.errors import TooLarge
from surelyread.pixels import differing
from surelyread.readings import fits
from surelyread.strips import machine, piece_region

MOST_STOPS = 60

# A stop is what a reading has come to between two lines of its region: (state, 0, 0)
# between two pieces, (move, size, lines passed) within a piece.
BEGINNING = (0, 0, 0)


def strip_region(parts, part, length, breadth):
    """The region of a strip with this length in its direction, and this breadth."""
    if parts[part][0] == "across":
        return (part, 0, 0, length, breadth)
    return (part, 0, 0, breadth, length)


def entries_of(parts, region, length):
    """The pairs (move, size) that can have a piece in a strip of leaves, ascending."""
    part = parts[region[0]]
    found = []
    moves = machine(part[3])[1]
    for number in range(len(moves)):
        _, _, inner, least, most, _ = moves[number]
        for size in range(least, min(most, length) + 1):
            if fits(parts[inner], piece_region(part, region, 0, size, inner)):
                found.append((number, size))
    return found


def lines_of(part, region, direction):
    """What a leaf draws in the lines of its region: columns (across) or rows (down)."""
    rows = plain_image(part, region) if part[0] == "plain" else part[4]
    if direction == "down":
        return list(rows)
    return ["".join([row[x] for row in rows]) for x in range(region[3])]


def steps_of(parts, region, entries):
    """The steps from each stop over the next line: (entry, stop behind it, price, line).

    Those of a stop are ascending by their entries. The first line of a piece has its price.
    """
    part = parts[region[0]]
    ends, moves = machine(part[3])
    steps = {(state, 0, 0): [] for state in range(len(ends))}
    for number, size in entries:
        origin, target, inner, _, _, cost = moves[number]
        lines = lines_of(parts[inner], piece_region(part, region, 0, size, inner), part[0])
        for done in range(size):
            stop = (number, size, done) if done > 0 else (origin, 0, 0)
            behind = (number, size, done + 1) if done + 1 < size else (target, 0, 0)
            price = 0 if done > 0 else cost + parts[inner][3]
            steps.setdefault(stop, []).append(((number, size), behind, price, lines[done]))
    return steps


class Pairs:
    """The least gaps of the pairs of rests that begin at two stops ahead of a line.

    Each one is told once; parted says whether the readings differ already, and those
    that do not must differ later. None stands where there is no such pair.
    """

    def __init__(self, steps, ends, length):
        self.steps = steps
        self.ends = ends
        self.length = length
        self.known = {}

    def least(self, line, one, other, parted):
        """The least gap of the pairs of rests at two stops."""
        key = (line, one, other, parted)
        if key not in self.known:
            self.known[key] = self.least_of(line, one, other, parted)
        return self.known[key]

    def least_of(self, line, one, other, parted):
        """The least gap of a place that was not asked before."""
        if line == self.length:
            return 0 if parted and self.can_end(one) and self.can_end(other) else None
        least = None
        for first in self.steps[one]:
            for second in self.steps[other]:
                told = self.with_steps(line, first, second, parted)
                if told is not None and (least is None or told < least):
                    least = told
        return least

    def can_end(self, stop):
        """Whether a reading can end at a stop."""
        return stop[1] == 0 and self.ends[stop[0]]

    def with_steps(self, line, first, second, parted):
        """The least gap of the pairs of rests that begin with these steps."""
        rest = self.least(line + 1, first[1], second[1], parted or first[0] != second[0])
        if rest is None:
            return None
        return second[2] - first[2] + differing((first[3],), (second[3],)) + rest

    def first_pair(self):
        """The first pair that has the least gap."""
        one = other = BEGINNING
        parted = False
        first_pieces = []
        second_pieces = []
        for line in range(self.length):
            first, second = self.first_steps(line, one, other, parted)
            if one[1] == 0:
                first_pieces.append((*first[0], ()))
            if other[1] == 0:
                second_pieces.append((*second[0], ()))
            one, other, parted = first[1], second[1], parted or first[0] != second[0]
        return tuple(first_pieces), tuple(second_pieces)

    def first_steps(self, line, one, other, parted):
        """The first two steps with which a pair of rests at two stops has the least gap."""
        least = self.least(line, one, other, parted)
        return [(first, second) for first in self.steps[one] for second in self.steps[other]
                if self.with_steps(line, first, second, parted) == least][0]


def gap(parts, part, length, breadth):
    """The least gap of a strip of leaves, and the two readings that have it, or None."""
    region = strip_region(parts, part, length, breadth)
    entries = entries_of(parts, region, length)
    ends = machine(parts[part][3])[0]
    if sum([size - 1 for _, size in entries]) + len(ends) > MOST_STOPS:
        raise TooLarge("strip")
    pairs = Pairs(steps_of(parts, region, entries), ends, length)
    least = pairs.least(0, BEGINNING, BEGINNING, False)
    if least is None:
        return None
    first, second = pairs.first_pair()
    return least, first, second
