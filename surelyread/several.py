"""The first readings: the cheapest ones, of those that look alike only the first."""

from heapq import heappop, heappush

from surelyread.best import Costs
from surelyread.needs import Looks
from surelyread.strips import extent, is_strip, piece_region


class Several:
    """The first readings of regions and the first rests at spots, as many as wanted.

    Each is (cost, reading, leaves); the leaves are told by numbers, one for each region.
    The pieces and the rest of a first reading are first ones themselves: whatever
    precedes one of them and looks otherwise would make a reading that precedes.
    """

    def __init__(self, costs, most):
        self.costs = costs
        self.most = most
        self.found = {}
        self.numbers = {}

    def of_region(self, region):
        """The first readings of a region."""
        if region not in self.found:
            self.found[region] = self.make(region)
        return self.found[region]

    def make(self, region):
        """The first readings of a region that was not asked before."""
        least = self.costs.least(region)
        if least is None:
            return []
        part = self.costs.parts[region[0]]
        if not is_strip(part):
            number = self.numbers.setdefault(region, len(self.numbers))
            return [(least, (), (number,))]
        end = extent(part, region)
        ends = self.costs.looks.table[region[0]][0]
        rests = {}
        for (state, offset), looks in reversed(list(self.costs.looks.by_spot(region).items())):
            if offset == end:
                rests[(state, offset)] = [(0, (), ())] if ends[state] else []
            else:
                chains = self.chains(region, offset, looks, rests)
                rests[(state, offset)] = first_joined(chains, self.most)
        return rests[(0, 0)]

    def chains(self, region, offset, looks, rests):
        """(price, move, size, readings of the piece, rests) for each look at an offset."""
        part = self.costs.parts[region[0]]
        moves = self.costs.looks.table[region[0]][1]
        found = []
        for number, size in looks:
            move = moves[number]
            behind = rests[(move[1], offset + size)]
            if behind:
                inner = self.of_region(piece_region(part, region, offset, size, move[2]))
                if inner:
                    found.append((move[5], number, size, inner, behind))
        return found


def put_joined(queue, chains, at, inner, behind):
    """Puts what joins a reading and a rest of a chain into the queue, if there are such."""
    price, number, size, readings, rests = chains[at]
    if inner < len(readings) and behind < len(rests):
        cost, reading, _ = readings[inner]
        rest_cost, rest, _ = rests[behind]
        pieces = ((number, size, reading), *rest)
        heappush(queue, (price + cost + rest_cost, pieces, at, inner, behind))


def first_joined(chains, most):
    """The first rests that the chains tell, at most so many, of those that look alike one."""
    queue = []
    for at in range(len(chains)):
        put_joined(queue, chains, at, 0, 0)
    seen = set()
    found = []
    while queue and len(found) < most:
        cost, rest, at, inner, behind = heappop(queue)
        leaves = chains[at][3][inner][2] + chains[at][4][behind][2]
        if leaves not in seen:
            seen.add(leaves)
            found.append((cost, rest, leaves))
        # So each pair comes into the queue once, when one that precedes it leaves.
        put_joined(queue, chains, at, inner, behind + 1)
        if behind == 0:
            put_joined(queue, chains, at, inner + 1, 0)
    return found


def first_readings(parts, region, rows, wishes, count):
    """The cost and the reading of each of the first readings, in their order."""
    several = Several(Costs(Looks(parts), rows, wishes), count)
    return [(cost, reading) for cost, reading, _ in several.of_region(region)]
