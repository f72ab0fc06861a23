"""Needed regions: what must be looked at for a region, whatever image and wishes are."""

from surelyread.strips import extent, is_strip, machines, page_region, piece_region


def reached(machine, end):
    """The spots that a machine reaches up to an extent, by offsets, then by states.

    Each one has its looks, pairs (move, size), by moves, then by sizes.
    """
    moves = machine[1]
    states = [{} for _ in range(end + 1)]
    states[0][0] = True
    found = {}
    for offset in range(end + 1):
        here = sorted(states[offset])
        for state in here:
            found[(state, offset)] = looks_from(moves, state, end - offset)
            for number, size in found[(state, offset)]:
                states[offset + size][moves[number][1]] = True
    return found


def looks_from(moves, state, left):
    """The looks of a state where so much of the extent is left."""
    looks = []
    for number in range(len(moves)):
        move = moves[number]
        if move[0] == state:
            looks.extend([(number, size) for size in range(move[3], min(move[4], left) + 1)])
    return looks


class Looks:
    """The looks of the strips of a grammar, told once for each strip and extent."""

    def __init__(self, parts):
        self.parts = parts
        self.table = machines(parts)
        self.reached = {}
        self.put = {}

    def key(self, region):
        """All that the spots of a region of a strip depend on."""
        return (region[0], extent(self.parts[region[0]], region))

    def by_spot(self, region):
        """The reached spots of a region of a strip with their looks, as reached tells them."""
        key = self.key(region)
        if key not in self.reached:
            self.reached[key] = reached(self.table[key[0]], key[1])
        return self.reached[key]

    def count_of(self, region):
        """The number of the looks of a region."""
        if not is_strip(self.parts[region[0]]):
            return 0
        return sum([len(looks) for looks in list(self.by_spot(region).values())])

    def pieces(self, region):
        """What the looks of a region of a strip put: (part, offset, size), each one once."""
        key = self.key(region)
        if key not in self.put:
            moves = self.table[key[0]][1]
            put = {}
            for (_, offset), looks in self.by_spot(region).items():
                for number, size in looks:
                    put[(moves[number][2], offset, size)] = True
            self.put[key] = list(put)
        return self.put[key]

    def put_regions(self, region, strips):
        """The regions that the looks of a region of a strip put: of strips, or of other parts."""
        part = self.parts[region[0]]
        return [piece_region(part, region, offset, size, inner)
                for inner, offset, size in self.pieces(region)
                if is_strip(self.parts[inner]) == strips]


def needed_strips(looks, region):
    """The needed regions of strips."""
    if not is_strip(looks.parts[region[0]]):
        return []
    found = {region: True}
    waiting = [region]
    while waiting:
        pieces = looks.put_regions(waiting.pop(), True)
        for piece in pieces:
            if piece not in found:
                found[piece] = True
                waiting.append(piece)
    return list(found)


def needed_by(looks, region):
    """The needed regions, ascending."""
    found = {region: True}
    for strip in needed_strips(looks, region):
        found[strip] = True
        for piece in looks.put_regions(strip, False):
            found[piece] = True
    return sorted(found)


def spots(parts, region):
    """The reached spots of a region of a strip, by offsets, then by states."""
    return list(Looks(parts).by_spot(region))


def look_count(parts, region):
    """The number of the looks of a region."""
    return Looks(parts).count_of(region)


def needed(parts, region):
    """The regions that are needed for the region, ascending."""
    return needed_by(Looks(parts), region)


def effort(parts, width, height):
    """The number of all looks of all regions that are needed for a page."""
    looks = Looks(parts)
    page = page_region(parts, width, height)
    return sum([looks.count_of(strip) for strip in needed_strips(looks, page)])
