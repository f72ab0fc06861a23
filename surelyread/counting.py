"""Counts of readings: how many there are, of which costs, and their places."""

from surelyread.best import allowed
from surelyread.drawing import leaf_cost
from surelyread.errors import BadReading
from surelyread.needs import Looks
from surelyread.readings import fills, fits, regions
from surelyread.strips import extent, is_strip, piece_region


class Counts:
    """How many allowed readings of regions, and rests at spots, there are of each cost.

    Each is a dict of the costs up to the greatest one that counts, told once. Without an
    image, which is None, nothing costs anything.
    """

    def __init__(self, looks, rows, wishes, most):
        self.parts = looks.parts
        self.looks = looks
        self.rows = rows
        self.wished = wishes
        self.most = most
        self.known = {}
        self.rests = {}

    def of_region(self, region):
        """The counts of the allowed readings of a region."""
        if region not in self.known:
            self.known[region] = self.count_region(region)
        return self.known[region]

    def count_region(self, region):
        """The counts of a region that was not asked before."""
        if not allowed(self.parts, region, self.wished):
            return {}
        part = self.parts[region[0]]
        if is_strip(part):
            return self.by_spot(region)[(0, 0)]
        if not fits(part, region):
            return {}
        least = 0 if self.rows is None else leaf_cost(part, region, self.rows)
        return {least: 1} if least <= self.most else {}

    def by_spot(self, region):
        """The counts of the rests at the reached spots of a region of a strip."""
        if region not in self.rests:
            self.rests[region] = self.find_rests(region)
        return self.rests[region]

    def find_rests(self, region):
        """The counts of the rests in a region that was not asked before."""
        end = extent(self.parts[region[0]], region)
        ends = self.looks.table[region[0]][0]
        found = {}
        # Each look leads to a greater offset, whose spots are known by then.
        for (state, offset), looks in reversed(list(self.looks.by_spot(region).items())):
            counts = {0: 1} if offset == end and ends[state] else {}
            for look in looks:
                self.add_look(counts, region, offset, look, found)
            found[(state, offset)] = counts
        return found

    def add_look(self, counts, region, offset, look, rests):
        """Adds the rests that begin with a look to counts; rests has those behind it."""
        number, size = look
        move = self.looks.table[region[0]][1][number]
        behind = rests[(move[1], offset + size)]
        if behind:
            inner = self.of_region(piece_region(self.parts[region[0]], region, offset, size, move[2]))
            price = 0 if self.rows is None else move[5]
            add_joined(counts, inner, behind, price, self.most)

    def ways(self, region, offset, look):
        """How many readings of its piece, and how many rests behind it, a look has."""
        number, size = look
        move = self.looks.table[region[0]][1][number]
        piece = piece_region(self.parts[region[0]], region, offset, size, move[2])
        return total(self.of_region(piece)), total(self.by_spot(region)[(move[1], offset + size)])


def add_joined(counts, inner, behind, price, most):
    """Adds what joins a reading of a piece and a rest to counts, up to the greatest cost."""
    for one, many in inner.items():
        left = most - price - one
        for other, times in behind.items():
            if other <= left:
                cost = price + one + other
                counts[cost] = counts.get(cost, 0) + many * times


def total(counts):
    """How many there are, of all costs."""
    return sum(counts.values())


def count_all(parts, wishes):
    """The counts for which nothing costs anything."""
    return Counts(Looks(parts), None, wishes, 0)


def how_many(parts, region, wishes):
    """The number of the allowed readings of a region."""
    return total(count_all(parts, wishes).of_region(region))


def cost_counts(parts, region, rows, wishes, most):
    """How many allowed readings of a region cost 0, 1 and so on, up to the greatest cost."""
    counts = Counts(Looks(parts), rows, wishes, most).of_region(region)
    return [counts.get(cost, 0) for cost in range(most + 1)]


def place_of(parts, region, wishes, reading):
    """The place of a reading among the allowed readings of the region."""
    if not fills(parts, region, reading):
        raise BadReading()
    if not all([allowed(parts, one, wishes) for one in regions(parts, region, reading)]):
        raise BadReading()
    return place_in(count_all(parts, wishes), region, reading)


def place_in(counts, region, reading):
    """How many readings of the region come ahead of an allowed one."""
    place = 0
    state = 0
    offset = 0
    for number, size, inner in reading:
        for look in counts.looks.by_spot(region)[(state, offset)]:
            if look < (number, size):
                one, other = counts.ways(region, offset, look)
                place += one * other
        move = counts.looks.table[region[0]][1][number]
        piece = piece_region(counts.parts[region[0]], region, offset, size, move[2])
        place += place_in(counts, piece, inner) * counts.ways(region, offset, (number, size))[1]
        state = move[1]
        offset += size
    return place


def reading_at(parts, region, wishes, place):
    """The allowed reading of the region that has the place."""
    counts = count_all(parts, wishes)
    if not 0 <= place < total(counts.of_region(region)):
        raise BadReading()
    return reading_in(counts, region, place)


def reading_in(counts, region, place):
    """The reading of a region that has a place that there is."""
    part = counts.parts[region[0]]
    if not is_strip(part):
        return ()
    state = 0
    offset = 0
    pieces = []
    while offset < extent(part, region):
        number, size, place, behind = look_at(counts, region, state, offset, place)
        move = counts.looks.table[region[0]][1][number]
        piece = piece_region(part, region, offset, size, move[2])
        inner, place = divmod(place, behind)
        pieces.append((number, size, reading_in(counts, piece, inner)))
        state = move[1]
        offset += size
    return tuple(pieces)


def look_at(counts, region, state, offset, place):
    """The look with which the rest at a spot begins that has a place.

    (move, size, place among the rests that begin with it, how many rests there are behind)
    """
    looks = counts.looks.by_spot(region)[(state, offset)]
    at = 0
    one, other = counts.ways(region, offset, looks[at])
    while place >= one * other:
        place -= one * other
        at += 1
        one, other = counts.ways(region, offset, looks[at])
    return (*looks[at], place, other)
