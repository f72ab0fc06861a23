"""The best reading: the first one of those that cost least."""

from surelyread.drawing import leaf_cost
from surelyread.needs import Looks
from surelyread.strips import extent, is_strip, piece_region


def allowed(parts, region, wishes):
    """Whether a reading may have this region, as far as the wishes are concerned."""
    fixed, forbidden = wishes
    if region in forbidden:
        return False
    if is_strip(parts[region[0]]):
        return True
    return not any([other != region and overlap(region, other) for other in fixed])


def overlap(one, other):
    """Whether the rectangles of two regions have a pixel in common."""
    return (one[1] < other[1] + other[3] and other[1] < one[1] + one[3]
            and one[2] < other[2] + other[4] and other[2] < one[2] + one[4])


class Costs:
    """The least costs of the allowed readings of regions and of the rests at spots.

    Each one is told once. None stands where there is no such reading or rest.
    """

    def __init__(self, looks, rows, wishes):
        self.parts = looks.parts
        self.looks = looks
        self.rows = rows
        self.wished = wishes
        self.known = {}
        self.rests = {}

    def least(self, region):
        """The least cost of the allowed readings of a region."""
        if region not in self.known:
            self.known[region] = self.least_of(region)
        return self.known[region]

    def least_of(self, region):
        """The least cost of a region that was not asked before."""
        if not allowed(self.parts, region, self.wished):
            return None
        part = self.parts[region[0]]
        if is_strip(part):
            return self.by_spot(region)[(0, 0)]
        return leaf_cost(part, region, self.rows)

    def by_spot(self, region):
        """The least costs of the rests at the reached spots of a region of a strip."""
        if region not in self.rests:
            self.rests[region] = self.rests_of(region)
        return self.rests[region]

    def rests_of(self, region):
        """The least costs of the rests in a region that was not asked before."""
        end = extent(self.parts[region[0]], region)
        ends = self.looks.table[region[0]][0]
        found = {}
        # Each look leads to a greater offset, whose spots are known by then.
        for (state, offset), looks in reversed(list(self.looks.by_spot(region).items())):
            least = 0 if offset == end and ends[state] else None
            for look in looks:
                told = self.with_look(region, offset, look, found)
                if told is not None and (least is None or told < least):
                    least = told
            found[(state, offset)] = least
        return found

    def with_look(self, region, offset, look, rests):
        """The least cost of the rests that begin with a look; rests has those behind it."""
        number, size = look
        move = self.looks.table[region[0]][1][number]
        rest = rests[(move[1], offset + size)]
        if rest is None:
            return None
        piece = piece_region(self.parts[region[0]], region, offset, size, move[2])
        inner = self.least(piece)
        return None if inner is None else move[5] + inner + rest

    def reading(self, region):
        """The best reading of a region that has one."""
        part = self.parts[region[0]]
        if not is_strip(part):
            return ()
        moves = self.looks.table[region[0]][1]
        state = 0
        offset = 0
        pieces = []
        while offset < extent(part, region):
            number, size = self.first_look(region, state, offset)
            piece = piece_region(part, region, offset, size, moves[number][2])
            pieces.append((number, size, self.reading(piece)))
            state = moves[number][1]
            offset += size
        return tuple(pieces)

    def first_look(self, region, state, offset):
        """The first look with which a rest at a spot costs least."""
        rests = self.by_spot(region)
        looks = self.looks.by_spot(region)[(state, offset)]
        least = rests[(state, offset)]
        return [look for look in looks if self.with_look(region, offset, look, rests) == least][0]


def best(parts, region, rows, wishes):
    """The cost of the best reading, and this reading; None if there is no allowed reading."""
    costs = Costs(Looks(parts), rows, wishes)
    least = costs.least(region)
    return None if least is None else (least, costs.reading(region))
